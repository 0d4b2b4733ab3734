import PyProof.Rows.All
import Wide.All
import OpenK.AllK
import Wide.FinOn
import Lean
import PyProof.EqAt
import PyProof.EqKinds
import PyProof.TupleCall
import PyProof.Draws
import PyProof.ZipIter
import PyProof.EnumMake
import PyProof.AttrMissHeap
import KE.KDictOf
import PyProof.Rows.SeqMore2
import PyProof.Rows.SortWalk
import KE.KRevIter
import KE.KTryMore
import PyProof.RulesAs
import PyProof.NsDelKeeps
import KE.KIsAll
import PyProof.ExcArgs
import PySem.Challenge.RW_rotstacks_k33_whole_least
set_option Elab.async false
set_option linter.all false
set_option maxRecDepth 100000
set_option compiler.extract_closed false
set_option bootstrap.genMatcherCode false
local macro_rules | `(↑$t)=>`(some $t)
local macro_rules | `(⇑$t)=>`(some (.sh $t))
local macro_rules | `(↥$t)=>`(.int $t)
local macro_rules | `(⋯)=>`(by simp)
local macro_rules | `(∅)=>`(by lia)
theorem HS(h:True:=by rfl):True:=h
local macro_rules | `(‹$t›)=>`(autoParam $t HS._auto_1)
local macro_rules | `(command|@[simp] def $i:declId $s:optDeclSig $v:declVal)=>`(command|@[simp] noncomputable def $i:declId $s:optDeclSig $v:declVal)
local macro_rules | `(command|def $i:declId $s:optDeclSig $v:declVal)=>`(command|noncomputable def $i:declId $s:optDeclSig $v:declVal)
set_option maxHeartbeats 0
def ac:=@Option.bind_some
def ae:=@List.getElem?_cons_zero
def af:=@List.getElem?_cons_succ
def ah:=@List.length_map
def ai:=@Option.map_some
def aj:=@List.getElem?_eq_some_iff
def ak:=@List.length_append
def am:=@List.getElem?_eq_getElem
def ao:=@List.length_cons
def aq:=@if_pos
def au:=@PySem.Heap.get?_push_of_some
def av:=@List.set_cons_zero
def aw:=@List.set_cons_succ
def ax:=@PySem.wpAny_bind
def ay:=@List.mem_cons_of_mem
def bc:=@List.mem_of_getElem?
def bg:=@List.getElem?_append_left
def bi:=@List.mem_cons_self
def bn:=@List.getD_eq_getElem?_getD
def bq:=@List.map_cons
def bw:=@List.map_append
def bz:=@PySem.Heap.lt_size
def b6:=@Nat.lt_of_lt_of_le
def b7:=@if_neg
def b8:=@List.getElem?_map
def b9:=@Nat.le_refl
def cb:=@List.size_toArray
def ce:=@List.length_nil
def cf:=@Nat.ne_of_lt
def cg:=@Option.some.inj
def ci:=@List.nodup_cons
def cj:=@Bool.false_eq_true
def cr:=@List.mem_cons
def cw:=@List.mem_append_right
def cx:=@List.append_assoc
def db:=@PySem.Heap.get?_push_size
def dc:=@List.getElem?_append_right
def de:=@List.getElem?_eq_none
def df:=@List.flatten_cons
def dg:=@PySem.wpAny_pure
def dh:=@if_true
def di:=@Option.bind_eq_some_iff
def dm:=@List.map_nil
def dq:=@Bool.false_ne_true
def du:=@List.append_nil
def dw:=@PySem.Heap.get?_update_other
def dy:=@List.mem_append
def d5:=@List.lookup_cons
def d6:=@List.mem_singleton
def d7:=@Nat.le_trans
def d8:=@List.getElem?_set_ne
def d9:=@List.length_set
def em:=@decide_eq_false
def fb:=@List.mem_map
def ff:=@List.ext_getElem?
def fj:=@List.length_take
def fm:=@List.length_drop
def fo:=@Bool.and_eq_true
def fq:=@List.mem_append_left
def ft:=@List.length_singleton
def fu:=@List.flatten_append
def fx:=@List.getElem?_set_self
def fz:=@PySem.W.kia_one
def f6:=@PySem.mem_of_lookup
def f7:=@List.length_replicate
def f8:=@if_false
def f9:=@List.sublist_flatten_of_mem
def gc:=@List.pairwise_cons
def gf:=@Option.map_eq_some_iff
def gg:=@Nat.lt_succ_self
def gh:=@List.map_map
def gi:=@Int.mul_le_mul_of_nonneg_right
def gk:=@PySem.wpAny_holding
def gl:=@Int.toNat_natCast
def gm:=@List.singleton_append
def gn:=@List.sum_cons
def gv:=@List.mem_range
def h9:=@PySem.F.plainAttrs_list
def ib:=@Nat.zero_le
def ie:=@List.all_eq_true
def ii:=@decide_true
def ij:=@List.drop_eq_getElem_cons
def il:=@List.mem_flatten
def im:=@List.cons_append
def iq:=@decide_false
def ir:=@Nat.lt_irrefl
def iu:=@List.take_append_of_le_length
def iw:=@PySem.Heap.get?_update_self
def iz:=@Nat.lt_succ_of_lt
def i4:=@PySem.sizeLine_eq
def i5:=@PyProof.Rows.callWith_type1
def i6:=@List.take_of_length_le
def i7:=@List.filter_eq_nil_iff
def jb:=@List.range_succ
def jc:=@List.mem_filter
def jd:=@PySem.wpAny_mono
def je:=@PySem.wpAny_Call_Name_kw
def jf:=@decide_eq_true_eq
def jg:=@List.length_range
def jh:=@List.getElem?_set
def jl:=@List.length_pos_iff
def jp:=@PySem.lookup_relabel_local
def jq:=@eq_false
def js:=@Nat.le_of_not_lt
def jt:=@List.getElem_mem
def jx:=@List.eq_nil_of_length_eq_zero
def jy:=@List.zip_cons_cons
def jz:=@List.map_set
def j1:=@List.filter_append
def j2:=@Int.zero_add
def j3:=@PySem.Heap.size_push
def j5:=@PySem.codeAny_mono
def j9:=@PySem.wpAny_passesOwn
def ke:=@decide_eq_true
def kg:=@List.pairwise_append
def kh:=@List.getElem?_zipIdx
def ki:=@Int.mul_add
def km:=@List.replicate_succ
def kn:=@List.length_flatten
def ko:=@List.getElem?_range
def kt:=@List.of_mem_zip
def ku:=@List.find?_cons
def kx:=@PySem.W.callWith_K
def kz:=@Int.eq_ofNat_of_zero_le
def lh:=@Nat.zero_add
def li:=@Nat.ne_of_gt
def lj:=@List.take_succ_eq_append_getElem
def lp:=@List.takeWhile_append_dropWhile
def lq:=@PySem.wpAny_field
def lw:=@PySem.wpAny_pyIter_list
def ly:=@PySem.wpAny_newObj_type
def l7:=@Nat.le_antisymm
def l8:=@List.sum_append
def l9:=@List.nil_append
def md:=@List.getElem_of_mem
def me:=@List.filterMap_cons
def mj:=@Nat.le_of_lt
def ml:=@List.getElem?_concat_length
def mr:=@PySem.codeAny_call_builtin
def mw:=@beq_iff_eq
def my:=@Array.getElem?_eq_some_iff
def m4:=@PySem.wpAny_execs_nil
def m7:=@List.nodup_append
def m8:=@Bool.not_eq_true'
def ng:=@PySem.W.mg_of
def nh:=@Option.isSome_iff_exists
def nn:=@PySem.wpAny_call
def nr:=@PySem.call_meets
def nt:=@List.map_snd_zip
def nv:=@List.flatten_nil
def nz:=@List.filter_cons_of_pos
def n6:=@List.filter_cons_of_neg
def og:=@PySem.W.cellsFrom_some
def oh:=@Nat.succ.inj
def oj:=@List.takeWhile_sublist
def oo:=@PySem.wpAny_truthy_bool
def oy:=@Option.map_none
def oz:=@Bool.eq_iff_iff
def ph:=@PySem.wpAny_standAt
def pi:=@PySem.wpAny_comprehension_free
def pj:=@PySem.F.type_list_pop
def pk:=@PySem.F.slot_list_pop
def pq:=@List.length_filter_le
def pv:=@List.dropLast_eq_take
def pz:=@List.Perm.append_left
def qd:=@Nat.sub_succ_lt_self
def qe:=@Nat.le_succ
def qf:=@List.length_dropLast
def qg:=@Int.add_mul
def qw:=@PySem.wpAny_pyNext_list_item
def qx:=@PySem.W.plainGet_of
def qy:=@List.map_eq_nil_iff
def qz:=@List.map_congr_left
def rg:=@PySem.codeAny_builtin
def rh:=@Int.add_assoc
def rj:=@Bool.not_true
def tf:=@PySem.wpAny_pyNext_list_end
def tj:=@Nat.lt_of_le_of_lt
def tm:=@List.mem_filterMap
def tq:=@List.map_replicate
def tu:=@Int.emod_lt_of_pos
def uf:=@PySem.wpAny_newFunctionEnv
def ug:=@eq_true
def uh:=@PySem.W.kitx_list
def ui:=@Nat.lt_trans
def uj:=@Nat.lt_of_succ_le
def uk:=@Nat.le_succ_of_le
def ul:=@List.count_append
def um:=@List.Sublist.refl
def uo:=@Int.add_zero
def vd:=@List.eraseIdxIfInBounds_toArray
def vq:=@List.drop_length
def wn:=@Int.mul_le_mul_of_nonneg_left
def xp:=@List.length_zip
def xq:=@Int.emod_nonneg
def yq:=@Int.mul_lt_mul_of_pos_right
def zk:=@PySem.wpAny_pyIter_enum
def zl:=@and_self
def zm:=@PySem.boot_len
def zn:=@PySem.F.excBase_ValueError
def zo:=@List.take_left
def zp:=@Int.not_lt
def zr:=@Int.mul_nonneg
def zt:=@Int.lt_of_mul_lt_mul_right
def zu:=@Int.le_of_mul_le_mul_right
abbrev h6:=List PySem.Str
abbrev h7:=List PySem.Value
abbrev h8:=Option PySem.Value
abbrev ia:=List PySem.Addr
abbrev ic:=List Nat
abbrev ik:=List Int
abbrev ip:=List PySem.Env
abbrev i0:=List PySem.Expr
abbrev ka:=Option PySem.Str
abbrev kb:=Option Int
abbrev kf:=PySem.W.Frag
abbrev kv:=List (PySem.Addr×PySem.Obj)
abbrev k4:=Array PySem.Value
local macro_rules | `(command|example:=[$n:num,*])=>return Lean.mkNullNode (←n.getElems.mapM λx=>`(command|def $(Lean.mkIdent (.mkSimple s!"tw{x.getNat}")):ident:=0))
namespace PySem.W.Fast
example:=[15322368539271036669,16532565388948089689,13555893974768387133,13184622150755146257,15359066029296091914,12228147544654841872,13348409745563679208,11184157179852473437,10061143278951088905,5983847421345645524,390746492956994619,7803279730508470376,5721976631286687531,14726039395708169042,4820894714139109015,16443253333803420104,3081121813497292077,10533599864970498892,2568920784801229785,3044662861464783554,13981220838688484487,5071705196183758623,8377269827167821243,2360446847297263352,2137295140595160997,5741954281030942009,16715844170848953604,10900955558412200155,14933751010407891511,2626721090386267002,3314927111501063416,11426443043654593942,10063708139341080091,283888789339259811,14620615850239007432,1489821537144307907,13322620195486047597,3232635945941642777,11695338289939695011,11105427925141876665,10143343062441790778,14389626407233804841,11294541751604607749,2310152115407694317,7398227462170047471,8221379785114272625,2198424039721550075,1024519886807242658,10150583710244575269,1030786325826500318,207844607496620087,13829647151781561520,5952162250928874895,18414715300666540281,857434056779319320,9891321043359845860,12512955897309937402,3599352512664547791,9407546540072142627,1345793373164641390,12576833586557029387,6587007149042686835,13414405786833013108,10121377862272130278,3293404830325504663,11262589385775625546,2455845457240328603,6494861536361643620,15974327944981590682,5034716454303145026,6575327488482023919,8672185609985027439,4580958863683113643,9861558533797506370,5598528202930427401,14573953567509026023,7951472646213758859,14321320524742165127,2043501010429613985,5638072327206742917,17490062104116439393,3945582593327187780,10348187116693211653,2991398781726216151,11902716633894340175,6239945339599895091,10959613180006933657,17388220926716677784,8567998345255177908,3140074797282361975,15178129359280702113,2482843710108317932,17661425642621637435,713925798845973743,17806559798037380195,13138367290070879637,3197127712834208283,13858130960292467990,15803686785222356702,6636851955436695,15552618252400785101,5317498474899054006,1592825966979909660,3805822162775641158,14798798110222285957,14196151101740859672,6817870253097453358,2415593063302787039,7394741089951629460,8447859378991008473,8936502833500920895,9669302385736668707,14911012770107861437,13934532566174715844,1042730745191015830,8168842266489454260,5237237098397690607,5947341320043252116,3823070681319032280,13216005959699228206,14362189368304933659,670046974156816329,12947299061229459072,15711869671402154468,14072604438232420825,11237023367331401364,10230110147958061854,17850976101320007240,14845087081150203729,10299508411813066587,511964816478924817,4687459795218132417,161789380018545185,5921982454176926030,5685583080274577854,14163884457187909044,18251893030405360759,17715355151536627880,2574126834795712848,7122239765987411625,10720492821938749597,7068168932148428858,17581998168518647442,14445418872937896079,7319031757845495107,16518523057615377998,3582978304103213920,8369070374558896570,2824953636588753854,7027161504191823226,15028540772661132815,10462606234668850954,11914615696464047931,3587737807500910358,14364480124369061956,15225300591409608309,14314331636810974966,6304074034095042606,4432724790468297698,10061068533373863766,10150564033475805507,8334637872655713847,15312604883864658121,8046396776376872931,17436130570902122954,12753231255117558486,10771606327701965820,7556450903620949716,15831293633207555195,15182589722207170881,11457838680292950747,14506563637503060239,9420172007036384438,9832110386767757957,5112735133822708549,7494534464192885038,10507715511629606570,2071606587056475718,4895425382642465790,4872185083630023082,8709134058303481190,8684910251999183264,10064278401438594924,58109462115370533,8987107992637252426,6837075614334933056,7083750166878692056,8287477372257394460,5898611799629526299,15763358009564810877,8226255479208371499,17741644304281435960,2779806356483853326,2850334971432590260,5539107422793943528,17809448620705087777,17731801680971310,6050367820228774611,17194835738226993535,14437288457267782290,14568005782239985718,14556100686425596895,9464325053844941288,13916040809530369296,17077607373639304804,12576081000109285875,17081379799441678081,13431528681176638448,10879388595287842575,13774891425750927617,568288329237370443,7685166495978285493,13386539616366912008,6490407223968664275,12978444730273849538,7854691781986271314,953458651356121817,8728325574167029789,13390658044978220976,1622557476127942605,2228886653635050822,7881732657216084209,13144248107758189823,9587186042336116289,907412407791952677,1300126134674727313,379934576109449449,10850915588502522953,17418236404890956669,5583691673590225428,17676653509532986929,10472215586378509919,11334331014071413509,7259224906758229625,15951587067062996801,587545333870980003,4050732226601590682,9301344737321345939,113418834073767240,14311182668673169604,2325606590763678580,14826912328538242741,15548075588772323972,8890728187195941351,10188978387758169283,17086542154390238387,9509332782846596327,16010320434224640865,2375006567970996351,8694474041912759065,15594794917597159775,13026136331304254567,7180586073690095120,2903587536570550830,1304929338181100159,210044324623842073,1595747642052662668,3779230181079493466,15623725677461450909,13518084608589410599,13659396781174467188,4268622498170725944,6807043632278035834,10330581090520975216,11972091374280734221,16888146075410284241,2453648838953685886,1029180713837240270,4305065240375502561,773837769077973527,5166654182613107631,15233186442932194513,10587343237000749088,9805812323308449676,16835878378154914824,457999842877823005,12820195605933434369,5562189002064086367,10276145494591126561,8528296176800286927,17808692385677522963,9825519608591523203,11344943184745296118,7772875871448657254,13449174799738682798,17843410382910287299,8132564728747547695,854140536876979112,16095411511866042282,6136188396591149831,12224483052660838870,1672570849053800847,8860451591181354368,2702439272556505636,7268222223166270178,13613329712079379203,14373656841820193810,1723659334660492738,72124689216411349,3653488805216411198,4569819267291783727,17493926111213347753,11276991364880623187,3609704435018269715,17814219459025534607,12779886806967036166,6607621480160023203,17985486175664672621,7470472829763555575,2874688819157373922,10806869555407309963,5123867004574809352,10843531812203080730,12654239967497380371,5062136379586313953,13121867851967981337,1875952268861844880,1091703407481519901,10990553094901904019,11369576313543810532,18230195313121980701,17698045181106920911,5051928251995058599,16811382352537774871,14405675546686497759,6163023441807191163,13617027138147984029,11114441641902549053,661426467697074520,596264357689304544,10744851713941782746,16154471270675051047,8795369682736231300,13954008924371047584,2539125382721200481,18167784821210252591,6126246310323976670,15250171669823584787,947715704256038905,12264938177008825913,16597604728206179373,14610191767553438957,9196622942796576911,6310095105211835881,3940656549514326351,9278190766790203136,11054019970778517585,4034797779667044739,6332842604250591561,7079707947466958888,700388651757566146,12357591020339336212,7402376978453233549,4451723133488617876,1856843853476692474,13923418127731320396,5106441590265517144,1770286503028895335,2388936564005763016]
end PySem.W.Fast
open_top headO for PySem.Challenge.rw_rotstacks_k33_whole_least
noncomputable section
namespace L2
open PySem PySem.Spec PyProof.Rows
abbrev dU:=Sum Int Str
def nD:dU->Value->Bool
 | .inl k,v=>Value.isInt k v | .inr x,v=>Value.isStrOf x v
def xH(w:World):dU->Int
 | .inl k=>hashInt k | .inr x=>hashStr w x
def yh:∀ {k:dU} {v:Value},nD k v=true->(∃i t,k=Sum.inl i/\v=Value.int i t)\/(∃x t,k=Sum.inr x/\v=Value.str x t)
 | .inl i,v,h=>by
   obtain⟨t,e⟩:=Value.isInt_shape (k:=i) (v:=v) h;exact .inl ⟨i,t,rfl,e⟩
 | .inr x,v,h=>by
   obtain⟨t,e⟩:=Value.isStrOf_shape (x:=x) (v:=v) h;exact .inr ⟨x,t,rfl,e⟩
def HU(i:Int)(t:Tok):nD (.inl i) (.int i t)=true:=by simp[nD,Value.isInt]
def HV(x:Str)(t:Tok):nD (.inr x) (.str x t)=true:=by simp[nD,Value.isStrOf]
def HW(a b:Int):decide ((Sum.inl a:dU)=Sum.inl b)=(a==b):=by
 by_cases e:a=b
 ·subst e;simp
 ·have h:¬(Sum.inl a:dU)=Sum.inl b:=λq=>e (Sum.inl.inj q)
  rw[em h];exact(beq_eq_false_iff_ne.mpr e).symm
def HX(a b:Str):decide ((Sum.inr a:dU)=Sum.inr b)=decide (a=b):=by
 by_cases e:a=b
 ·subst e;simp
 ·have h:¬(Sum.inr a:dU)=Sum.inr b:=λq=>e (Sum.inr.inj q)
  rw[em h,em e]
def HY(a:Int)(b:Str):decide ((Sum.inl a:dU)=Sum.inr b)=false:=em (λq=>nomatch q)
def HZ(a:Str)(b:Int):decide ((Sum.inr a:dU)=Sum.inl b)=false:=em (λq=>nomatch q)
def re(prog:Program)(w:World):PySem.KeyKind prog w dU where
 is:=nD
 hash:=xH w
 inj:=λv a b U I=>by
  rcases yh U with⟨i,t,rfl,rfl⟩ | ⟨x,t,rfl,rfl⟩
  ·rcases yh I with⟨j,u,rfl,e⟩ | ⟨y,u,rfl,e⟩
   ·injection e with e1 _;rw[e1]
   ·exact nomatch e
  ·rcases yh I with⟨j,u,rfl,e⟩ | ⟨y,u,rfl,e⟩
   ·exact nomatch e
   ·injection e with e1 _;rw[e1]
 byValue:=λk v h=>by
  rcases yh h with⟨i,t,rfl,rfl⟩ | ⟨x,t,rfl,rfl⟩ <;> rfl
 pyHash:=λD h=>by
  rcases yh D with⟨i,t,rfl,rfl⟩ | ⟨x,t,rfl,rfl⟩
  ·exact wpAny_pyHash_int h
  ·exact wpAny_pyHash_str h
 eqBool:=λV D h=>by
  rcases yh V with⟨i,t,rfl,rfl⟩ | ⟨x,t,rfl,rfl⟩
  ·rcases yh D with⟨j,u,rfl,rfl⟩ | ⟨y,u,rfl,rfl⟩
   ·rw[HW] at h;exact wpAny_eqBool_int h
   ·rw[HY] at h;exact SeqAt.EqAt.int_str i t y u _ _ _ _ h
  ·rcases yh D with⟨j,u,rfl,rfl⟩ | ⟨y,u,rfl,rfl⟩
   ·rw[HZ] at h;exact SeqAt.EqAt.str_int x t j u _ _ _ _ h
   ·rw[HX] at h;exact wpAny_eqBool_str h
 «strs»:=λk x t v h=>by
  rcases yh h with⟨i,u,rfl,e⟩ | ⟨y,u,rfl,e⟩
  ·exact nomatch e
  ·injection e with e1 _
   subst e1;cases v <;> rfl
def CL(prog:Program)(w:World)(i:Int)(t:Tok):(re prog w).is (.inl i) (.int i t)=true:=HU i t
def H_(prog:Program)(w:World)(x:Str)(t:Tok):(re prog w).is (.inr x) (.str x t)=true:=HV x t
inductive V where
 |non |bl (b:Bool) |int (i:Int) |str (x:Str) |byt (b:Array UInt8) |flt (b:UInt64) |ref (a:Addr) |ty (n:String)
 deriving DecidableEq
abbrev k6:=List V
def RelV:V->Value->Prop
 | .non,u=>u=Value.none | .bl b,u=>u=Value.bool b | .int i,u=>∃t,u=Value.int i t
 | .str x,u=>∃t,u=Value.str x t | .byt b,u=>∃t,u=Value.bytes b t | .flt b,u=>∃t,u=Value.float b t | .ref a,u=>u=Value.ref a | .ty n,u=>u=Value.type n
abbrev aP:k6->h7->Prop:=Paired RelV
def aP.length{xs:k6}{us:h7}(r:aP xs us):xs.length=us.length:=Paired.length r
def aP.get:∀ {xs:k6} {us:h7} {i:Nat} {x:V},aP xs us->xs[i]?=↑x->∃u,us[i]?=↑u/\RelV x u
 |_,_,_,_,.nil,e=>by simp at e |_,_,0,_,.cons r _,e=>by simp at e;subst e;exact⟨_,rfl,r⟩ |_,_,i+1,x,.cons _ t,e=>by
   obtain⟨u,h1,h2⟩:=aP.get (i:=i) (x:=x) t (by simpa using e);exact⟨u,by simpa using h1,h2⟩
def aP.set{x:V}{u:Value}(r:RelV x u):∀ {xs:k6} {us:h7} (i:Nat),aP xs us->aP (xs.set i x) (us.set i u)
 |_,_,_,.nil=>.nil |_,_,0,.cons _ t=>.cons r t |_,_,i+1,.cons q t=>.cons q (aP.set r i t)
variable{xs ys:k6}{us:h7}
def aP.append{ws:h7}(h:aP xs us)(s:aP ys ws):aP (xs++ys) (us++ws):=by
 induction h with
 |nil=>exact s |cons r _ q=>exact .cons r q
def aP.take:∀ {xs:k6} {us:h7} (n:Nat),aP xs us->aP (xs.take n) (us.take n)
 |_,_,0,_=>.nil |_,_,_+1,.nil=>.nil |_,_,n+1,.cons r t=>.cons r (aP.take n t)
def aP.drop:∀ {xs:k6} {us:h7} (n:Nat),aP xs us->aP (xs.drop n) (us.drop n)
 |_,_,0,r=>r |_,_,_+1,.nil=>.nil |_,_,n+1,.cons _ t=>aP.drop n t
def eO:Option V->h8->Prop
 |some v,↑u=>RelV v u |none,none=>True |_,_=>False
def KV{κ:Type}:List (κ×V)->List (κ×Value)->Prop:=Paired λ(p:κ×V) (q:κ×Value)=>p.1=q.1/\RelV p.2 q.2
def kV:dU->V
 | .inl i=>.int i
 | .inr x=>.str x
inductive HO where
 |lst (xs:k6)
 |tup (xs:k6)
 |dK (kvs:List (dU×V)) |dT (kvs:List (List dU×V))
 |set (S:Int->Bool) (n:Nat)
 |ins (C dx:Addr) (fs:List (Str×V))
 |own (x:Addr)
 |xd (fs:List (Str×V))
 |met (f x:Addr)
 |rng (lo hi:Int)
 |frz (o:Obj) (u:HO)
 |tbl (ps:k4)
 |ext (φ:Heap->Prop)
abbrev Hp:=Addr->Option HO
def aV(H:Hp)(a:Addr)(o:HO):Hp:=λb=>if b=a then ↑o else H b
variable{H:Hp}{a:Addr}{o:HO}
def m6:aV H a o a=↑o:=by unfold aV;rw[aq rfl]
variable{b:Addr}
def jo(h:b≠a):aV H a o b=H b:=by unfold aV;rw[b7 h]
def sw(h:H a=↑o)(h':H b=none):a≠b:=by
 intro e;subst e;rw[h] at h';cases h'
section
variable (P:Program) (w:World)
def bP(H:Hp)(h:Heap)(a:Addr):HO->Prop
 | .lst xs=>xs.length<=sizeLine/\∃(its:h7) (n:Nat),aP xs its/\h.get? a=some { cls:=.type "list",data:=.seq its.toArray n } | .tup xs=>xs.length<=sizeLine/\∃its:h7,aP xs its/\IsTup h a its.toArray | .dK kvs=>kvs.length<=sizeLine/\(a==sysModules)=false/\∃vs,KV kvs vs/\h.DictOf (re P w) a vs | .dT kvs=>kvs.length<=sizeLine/\(a==sysModules)=false/\∃xs:List (List dU×Addr×Value),
    Paired (λ(p:List dU×V) (q:List dU×Addr×Value)=>p.1=q.1/\H q.2.1=↑(.tup (p.1.map kV))/\RelV p.2 q.2.2) kvs xs /\
    ∃o es D,h.get? a=↑o/\o.ExactDict/\o.data=.dict es D/\es.toList=xs.map (entryOfKey (tupleKind (re P w)))/\(xs.map (·.1)).Nodup
 | .set S n=>h.SetOf (intKind P w) a S n | .ins C dx fs=>H dx=↑(.own a)/\fs.length<=1000/\dx≠a/\h.get? a=↑(PySem.W.instObj C dx) /\
    ∃mA,h.Ns1 dx mA/\(∀f,eO (fs.lookup f) (mA f))/\PySem.Within mA (fs.map (·.1))
 | .own _=>∃o,h.get? a=↑o | .xd fs=>∃mA,h.Ns1 a mA/\∀f,eO (fs.lookup f) (mA f) | .rng lo hi=>∃t u v,h.get? a=some { cls:=.type "range",data:=.fields #[.int lo t,.int hi u,.int 1 v] } | .frz o u=>h.get? a=↑o/\bP H h a u | .tbl ps=>h.get? a=some { cls:=.none,data:=.fields ps } | .met f x=>h.get? a=↑(PySem.W.methodObj (.ref f) (.ref x)) | .ext φ=>φ h/\(∃o,h.get? a=↑o)/\∀h1 h2:Heap,φ h1->(∀o,h1.get? a=↑o->h2.get? a=↑o)->φ h2
def e_(H:Hp)(h:Heap):Prop:=∀a o,H a=↑o->bP P w H h a o
end
variable{P:Program}{w:World}{h:Heap}
def bP.lt(x:bP P w H h a o):a<h.objs.size:=by
 cases o with
 |lst xs=>obtain⟨_,_,_,_,e⟩:=x;exact bz e |tup xs=>obtain⟨_,_,_,p⟩:=x;exact p.lt |dK kvs=>obtain⟨_,_,_,_,o,_,_,e,_⟩:=x;exact bz e |dT kvs=>obtain⟨_,_,_,_,o,_,_,e,_⟩:=x;exact bz e |set S n=>obtain⟨o,_,_,_,e,_⟩:=x;exact bz e |ins C dx fs=>obtain⟨_,_,_,e,_⟩:=x;exact bz e |own y=>obtain⟨_,e⟩:=x;exact bz e |xd fs=>obtain⟨_,⟨_,_,_,e,_⟩,_⟩:=x;exact bz e |rng lo hi=>obtain⟨_,_,_,e⟩:=x;exact bz e |frz ob u=>obtain⟨e,_⟩:=x;exact bz e |tbl ps=>exact bz (show h.get? a=↑_ from x) |met f y=>exact bz (show h.get? a=↑_ from x) |ext φ=>obtain⟨_,⟨_,e⟩,_⟩:=x;exact bz e
variable{α:Type}
def Paired.mapP{β:Type}{F G:α->β->Prop}{D:List α}{I:List β}(h:Paired F D I)(f:∀a b,F a b->G a b):Paired G D I:=by
 induction h with
 |nil=>exact .nil |cons r _ q=>exact .cons (f _ _ r) q
variable{H':Hp}{h':Heap}
def bP.stay(x:bP P w H h a o)(k:∀b u,(b=a\/H b=↑(.own a))->h.get? b=↑u->h'.get? b=↑u)(U:∀b,H b=↑(.own a)->H' b=↑(.own a))(V:∀b xs,H b=↑(.tup xs)->H' b=↑(.tup xs)):bP P w H' h' a o:=by
 induction o with
 |lst xs=>obtain⟨z,its,n,r,e⟩:=x;exact⟨z,its,n,r,k _ _ (.inl rfl) e⟩ |tup xs=>obtain⟨z,its,r,D,e,c⟩:=x;exact⟨z,its,r,D,k _ _ (.inl rfl) e,c⟩ |dK kvs=>obtain⟨z,y,vs,r,D,es,I,e,c⟩:=x;exact⟨z,y,vs,r,D,es,I,k _ _ (.inl rfl) e,c⟩ |dT kvs =>
   obtain⟨z,y,xs,r,D,es,I,e,c⟩:=x;exact⟨z,y,xs,Paired.mapP r λp q z=>⟨z.1,V _ _ z.2.1,z.2.2⟩,D,es,I,k _ _ (.inl rfl) e,c⟩
 |set S n=>obtain⟨D,es,I,t,e,c⟩:=x;exact⟨D,es,I,t,k _ _ (.inl rfl) e,c⟩ |ins C dx fs =>
   obtain⟨d,z,Y,e,mA,⟨od,es,I,Z,c⟩,r⟩:=x;exact⟨U _ d,z,Y,k _ _ (.inl rfl) e,mA,⟨od,es,I,k _ _ (.inr d) Z,c⟩,r⟩
 |own y=>obtain⟨D,e⟩:=x;exact⟨D,k _ _ (.inl rfl) e⟩ |xd fs=>obtain⟨mA,⟨od,es,I,e,c⟩,r⟩:=x;exact⟨mA,⟨od,es,I,k _ _ (.inl rfl) e,c⟩,r⟩ |rng lo hi=>obtain⟨t,u,v,e⟩:=x;exact⟨t,u,v,k _ _ (.inl rfl) e⟩ |frz D u ih=>obtain⟨e,q⟩:=x;exact⟨k _ _ (.inl rfl) e,ih q⟩ |tbl ps =>
   have e:h.get? a=some { cls:=.none,data:=.fields ps }:=x;show h'.get? a=some { cls:=.none,data:=.fields ps };exact k a _ (.inl rfl) e
 |met f y =>
   have e:h.get? a=↑(PySem.W.methodObj (.ref f) (.ref y)):=x;show h'.get? a=↑(PySem.W.methodObj (.ref f) (.ref y));exact k a _ (.inl rfl) e
 |ext φ=>obtain⟨p,⟨o,e⟩,st⟩:=x;exact⟨st _ _ p λo q=>k _ _ (.inl rfl) q,⟨o,k _ _ (.inl rfl) e⟩,st⟩
def e_.lt(x:e_ P w H h)(e:H a=↑o):a<h.objs.size:=(x a o e).lt
def e_.fresh(x:e_ P w H h)(e:h.objs.size<=a):H a=none:=by
 cases q:H a with
 |none=>rfl |some u=>exact absurd (b6 (x.lt q) e) (ir _)
def e_.kept(x:e_ P w H h)(k:∀b u,h.get? b=↑u->h'.get? b=↑u):e_ P w H h':=λa o e =>
 (x a o e).stay (λb u _ q=>k b u q) (λ_ q=>q) λ_ _ q=>q
def e_.laid(x:e_ P w H h)(k:∀b u,h.get? b=↑u->h'.get? b=↑u)(U:h.objs.size<=a)(new:bP P w (aV H a o) h' a o):e_ P w (aV H a o) h':=λb u e=>by
 have D:=x.fresh U;by_cases I:b=a
 ·subst I;rw[m6] at e;cases e;exact new
 ·rw[jo I] at e
  exact(x b u e).stay (λc v _ q=>k c v q) (λc q=>by rw[jo (sw q D)];exact q) λc xs q=>by rw[jo (sw q D)];exact q
def Rd(H:Hp)(a:Addr)(u:HO):Prop:=H a=↑u\/∃o,H a=↑(.frz o u)
variable{u:Value}
def Rd.ok{u:HO}(r:Rd H a u)(x:e_ P w H h):bP P w H h a u:=by
 rcases r with r | ⟨o,r⟩
 ·exact x a u r
 ·obtain⟨_,q⟩:=x a _ r
  exact q
def sO:Option HO->Prop
 |some (.lst _)=>True |some (.dK _)=>True |some (.dT _)=>True |some (.set _ _)=>True |some (.ins _ _ _)=>True |some (.ext _)=>True |_=>False
variable{x e:Addr}{o':HO}
def e_.write(ok:e_ P w H h)(V:sO (H x))(a:e=x\/H e=↑(.own x))(k:∀b u,b≠e->h.get? b=↑u->h'.get? b=↑u)(Z:∃u,h'.get? e=↑u)(new:bP P w (aV H x o') h' x o'):e_ P w (aV H x o') h':=λb u q=>by
 have I:∀c y,H c=↑(.own y)->c≠x:=λc y r z=>by subst z;rw[r] at V;exact V
 have U:∀c xs,H c=↑(.tup xs)->c≠x:=λc xs r z=>by subst z;rw[r] at V;exact V
 by_cases Y:b=x
 ·subst Y;rw[m6] at q;cases q;exact new
 ·rw[jo Y] at q
  by_cases D:b=e
  ·have d:H b=↑(.own x):=by
    rcases a with z |z
    ·exact absurd (D.trans z) Y
    ·rw[D];exact z
   rw[q] at d;cases d;obtain⟨v,f⟩:=Z;exact⟨v,by rw[D];exact f⟩
  ·refine(ok b u q).stay (λc v hc r=>k c v ?_ r) (λc r=>by rw[jo (I c b r)];exact r) λc xs r=>by rw[jo (U c xs r)];exact r
   rcases hc with rfl |hc
   ·exact D
   ·rintro rfl
    rcases a with z |z
    ·exact I c b hc z
    ·rw[hc] at z;cases z;exact Y rfl
structure Un (fs ex:ia) (H H':Hp) (h h':Heap):Prop where
 keep:∀b o,h.get? b=↑o->H b=none->b∉fs->b∉ex->h'.get? b=↑o
 slot:∀b o,h.get? b=↑o->H b=none->b∈fs->b∉ex->∃sl,h'.get? b=some { o with slots:=sl }
 free:∀b o,h.get? b=↑o->H b=none->b∉ex->H' b=none
 there:∀b o,h.get? b=↑o->b∉ex->∃o',h'.get? b=↑o'
 tups:∀b xs,H b=↑(.tup xs)->H' b=↑(.tup xs)
 frzs:∀b o u,H b=↑(.frz o u)->H' b=↑(.frz o u)
 tbls:∀b ps,H b=↑(.tbl ps)->∃more,H' b=↑(.tbl (ps++more))
variable{fs ex:ia}{H1:Hp}{h1:Heap}
def Un.any(u:Un fs ex H H1 h h1){D:Obj}(q:h.get? b=↑D)(n:H b=none)(I:b∉ex):∃sl,h1.get? b=some { D with slots:=sl }:=by
 by_cases U:b∈fs
 ·exact u.slot b D q n U I
 ·exact⟨D.slots,u.keep b D q n U I⟩
def Un.kept(k:∀b u,h.get? b=↑u->h'.get? b=↑u):Un fs ex H H h h' :=
 ⟨λb D q _ _ _=>k b D q,λb D q _ _ _=>⟨D.slots,k b D q⟩,λ_ _ _ n _=>n,λb D q _=>⟨D,k b D q⟩,λ_ _ q=>q,λ_ _ _ q=>q,λ_ ps q=>⟨#[],by rw[q];simp⟩⟩
def Un.refl:Un fs ex H H h h:=Un.kept λ_ _ q=>q
def Un.laid(k:∀b u,h.get? b=↑u->h'.get? b=↑u)(I:h.objs.size<=a)(D:H a=none):Un fs ex H (aV H a o) h h' where
 keep:=λb u q _ _ _=>k b u q
 slot:=λb u q _ _ _=>⟨u.slots,k b u q⟩
 free:=λb u q n _=>by rw[jo (cf (b6 (bz q) I))];exact n
 there:=λb u q _=>⟨u,k b u q⟩
 tups:=λb xs q=>by rw[jo (sw q D)];exact q
 frzs:=λb u xs q=>by rw[jo (sw q D)];exact q
 tbls:=λb ps q=>⟨#[],by rw[jo (sw q D),q];simp⟩
def Un.write(I:sO (H x))(a:e=x\/H e=↑(.own x))(k:∀b u,b≠e->h.get? b=↑u->h'.get? b=↑u)(U:∃u,h'.get? e=↑u):Un fs ex H (aV H x o) h h':=by
 have Y:∀b,H b=none->b≠x:=λb n z=>by subst z;rw[n] at I;exact I
 have Z:∀b,H b=none->b≠e:=λb n z=>by
  subst z;rcases a with r |r
  ·exact Y b n r
  ·rw[n] at r;cases r
 have V:∀b u,H b=↑u->¬sO ↑u->b≠x:=λb u q nm z=>by subst z;rw[q] at I;exact nm I
 refine⟨λb u q n _ _=>k b u (Z b n) q,λb u q n _ _=>⟨u.slots,k b u (Z b n) q⟩,λb u q n _=>by rw[jo (Y b n)];exact n,λb u q _=>?_,
  λb xs q=>by rw[jo (V b _ q λz=>z)];exact q,λb u xs q=>by rw[jo (V b _ q λz=>z)];exact q,λb ps q=>⟨#[],by rw[jo (V b _ q λz=>z),q];simp⟩⟩
 by_cases D:b=e
 ·subst D;exact U
 ·exact⟨u,k b u D q⟩
def sP(h:Heap)(H:Hp):ia:=(List.range h.objs.size).filter λa=>(H a).isSome
def gW(h:Heap)(H:Hp):Heap:=PySem.W.hideAll h (sP h H)
def Ia(h:Heap)(H:Hp):(gW h H).objs.size=h.objs.size:=PySem.W.hideAll_size _ _
variable{o:Obj}
def Ib(e:h.get? b=↑o)(n:H b=none):(gW h H).get? b=↑o :=
 PySem.W.hideAll_get _ e λD=>by
  have q:(H b).isSome=true:=(jc.mp D).2;rw[n] at q;simp at q
def Ic(e:(gW h H).get? b=↑o):h.get? b=↑o/\H b=none:=by
 have e':h.get? b=↑o:=PySem.W.of_hideAll (sP h H) e;refine⟨e',?_⟩;cases q:H b with
 |none=>rfl |some x =>
   have D:b∈sP h H:=jc.mpr ⟨gv.mpr (bz e'),by simp[q]⟩;have z:(gW h H).get? b=none:=PySem.W.hideAll_none (sP h H) D;rw[z] at e;cases e
structure Mod (K:kf) (mg:Str->h8) (base:Heap):Prop where
 kin:K.In base
 glob:base.Ns mainGlobals mg
 blt:∃mb,base.Ns builtinsNs mb/\∀x:Str,x ≠ "__name__"->mb x=bootBuiltins x
 nolimit:base.NoLimit
structure Cx where
 prog:Program
 w:World
 K:kf
 mg:Str->h8
 base:Heap
 A:Around
 N:h6
 s₀:Shared
 H₀:Hp
 env:Env
 outer:ip
 stack:ip
 ex:ia
 fn:Str->Bool
 calm:Bool
 pn:kv
 xe:Value->Shared->Prop
def fF(l:ip):ia:=l.filterMap (·.frame)
protected abbrev Cx.fs(X:Cx):ia:=fF X.outer
def lJ(sc:Scope)(x:Str):Prop:=sc.names.lookup x=some .local\/sc.names.lookup x=some .cell\/sc.names.lookup x=some .free
def Loc(sc:Scope)(x:Str):Prop:=sc.names.lookup x=some .local\/sc.names.lookup x=some .cell
def Look(env:Env)(h:Heap)(m:Str->h8)(x:Str)(u:Value):Prop :=
 (env.kindOf x=some .local/\m x=↑u)\/((env.kindOf x=some .cell\/env.kindOf x=some .free)/\∃c,env.cells.lookup x=↑c/\h.IsCell c ↑u)
structure Cx.Ok (X:Cx):Prop where
 mod:Mod X.K X.mg X.base
 kind:X.env.scope.kind=.function
 glob:X.env.globals=mainGlobals
 blt:X.env.builtins=builtinsNs
 above:X.s₀.heap.objs.size<=X.env.locals
 inj:∀x y c,X.env.cells.lookup x=↑c->X.env.cells.lookup y=↑c->x=y
 has:∀x,(X.env.kindOf x=some .cell\/X.env.kindOf x=some .free)->∃c,X.env.cells.lookup x=↑c
 cab:∀x c,X.fn x=true->X.env.cells.lookup x=↑c->X.s₀.heap.objs.size<=c
 hd:X.calm=true->X.A.handled=none
 frames:X.A.frames=↑X.stack
 stk:X.stack=X.outer\/(X.stack=X.env::X.outer/\X.env.frame=↑X.env.locals)
 exf:∀b∈X.ex,b≠X.env.locals/\∀x c,X.env.cells.lookup x=↑c->c≠b
 bs:∀b o,X.base.get? b=↑o->X.s₀.heap.get? b=↑o/\X.H₀ b=none
 bsz:X.base.objs.size<=X.s₀.heap.objs.size
 noex:∀b o,X.base.get? b=↑o->b∉X.ex
 exfs:∀b∈X.ex,b∉X.fs
 funs:X.s₀.heap.FunFrames X.base X.outer
 frf:∀b∈X.fs,X.H₀ b=none
structure Inv (X:Cx) (pins:kv) (σ:List (Option V)) (H:Hp) (s:Shared):Prop where
 ok:X.Ok
 os:s.os=X.s₀.os
 bare:AllBare s.gens
 base:Un X.fs X.ex X.H₀ H X.s₀.heap s.heap
 loc:∃m,s.heap.Ns X.env.locals m/\∀(i:Nat) (x:Str) (v:V),X.N[i]?=↑x->σ[i]?=↑↑v->lJ X.env.scope x->∃u,RelV v u/\Look X.env s.heap m x u
 cell:∀x c,X.env.cells.lookup x=↑c->∃v,s.heap.IsCell c v
 free:H X.env.locals=none
 freeC:∀x c,X.env.cells.lookup x=↑c->H c=none
 pin:∀p∈X.pn++pins,s.heap.get? p.1=↑p.2/\H p.1=none/\p.1≠X.env.locals/\p.1∉X.fs/\∀v,p.2.data≠.cell v
 hok:e_ X.prog X.w H s.heap
 len:σ.length=X.N.length
variable{X:Cx}
def Cx.Ok.nofr(ok:X.Ok)(e:X.base.get? b=↑o):b∉X.fs:=λD=>by
 have:=(ok.funs.mem D).1;rw[e] at this;cases this
variable{pins:kv}{σ:List (Option V)}{s:Shared}
protected def Inv.bs(I:Inv X pins σ H s):∀b o,X.base.get? b=↑o->s.heap.get? b=↑o/\H b=none:=λb o e =>
 ⟨I.base.keep b o (I.ok.bs b o e).1 (I.ok.bs b o e).2 (I.ok.nofr e) (I.ok.noex b o e),I.base.free b o (I.ok.bs b o e).1 (I.ok.bs b o e).2 (I.ok.noex b o e)⟩
def Inv.bk(I:Inv X pins σ H s):∀b o,X.base.get? b=↑o->s.heap.get? b=↑o:=λb o e=>(I.bs b o e).1
def Inv.mod(I:Inv X pins σ H s):Mod X.K X.mg X.base:=I.ok.mod
def Inv.kIn(I:Inv X pins σ H s):X.K.In s.heap:=I.ok.mod.kin.keeps I.bk
def Inv.lt(I:Inv X pins σ H s):X.env.locals<s.heap.objs.size:=let ⟨_,D,_⟩:=I.loc;D.lt
def Inv.sz(I:Inv X pins σ H s):X.s₀.heap.objs.size<=s.heap.objs.size:=d7 I.ok.above (mj I.lt)
def Inv.nofs(I:Inv X pins σ H s)(h:s.heap.objs.size<=a):a∉X.fs:=λD=>by
 obtain⟨_,o,U,_⟩:=I.ok.funs.mem D;exact absurd (b6 (bz U) (d7 I.sz h)) (ir _)
def Inv.cne(I:Inv X pins σ H s):∀x c,X.env.cells.lookup x=↑c->c≠X.env.locals:=λx c e z=>by
 obtain⟨v,o,V,hd⟩:=I.cell x c e;obtain⟨m,⟨o',es,Y,D,U,_⟩,_⟩:=I.loc;rw[z,D] at V;cases V;rw[U] at hd;cases hd
def Inv.funs(I:Inv X pins σ H s):s.heap.FunFrames X.base X.outer:=by
 have all:∀(l:ip),(∀b∈fF l,b∈X.fs)->X.s₀.heap.FunFrames X.base l->s.heap.FunFrames X.base l:=by
  intro l;induction l with
  |nil=>intro _ _;trivial
  |cons env r ih =>
    intro Y Z;obtain⟨a,⟨L,o,D,c,d,hd⟩,f⟩:=Z;have U:L∈X.fs:=Y L (by unfold fF;rw[me,D];exact bi);obtain⟨sl,e⟩:=I.base.slot L o d (I.ok.frf L U) U λz=>I.ok.exfs L z U;exact⟨a,⟨L,_,D,c,e,hd⟩,ih (λb V=>Y b (by unfold fF;rw[me,D];exact ay _ V)) f⟩
 exact all X.outer (λ_ V=>V) I.ok.funs
def Inv.stack(I:Inv X pins σ H s):s.heap.FunFrames X.base X.stack:=by
 rcases I.ok.stk with e | ⟨e,hf⟩
 ·rw[e];exact I.funs
 ·rw[e]
  obtain⟨m,D,_⟩:=I.loc;refine .cons (by rw[I.ok.kind];decide) hf D ?_ I.funs;exact Heap.get?_none_of_le (d7 I.ok.bsz I.ok.above)
def Inv.stkSub(I:Inv X pins σ H s):∀b∈fF X.stack,b∈X.env.locals::X.fs:=λb D=>by
 rcases I.ok.stk with e | ⟨e,hf⟩
 ·rw[e] at D;exact ay _ D
 ·rw[e] at D
  unfold fF at D;rw[me,hf] at D;exact D
def Inv.stkFree(I:Inv X pins σ H s):∀b∈fF X.stack,H b=none:=λb hb=>by
 rcases cr.mp (I.stkSub b hb) with e |hb
 ·rw[e];exact I.free
 ·obtain⟨_,o,D,_⟩:=I.ok.funs.mem hb
  exact I.base.free b o D (I.ok.frf b hb) λz=>I.ok.exfs b z hb
variable{g':Array GenState}{t':Nat}{d':Drawn}{ch:ia}
protected def Inv.step(I:Inv X pins σ H s)(U:∀b∈ch,(b∈X.ex\/X.s₀.heap.objs.size<=b)/\b≠X.env.locals/\(∀x c,X.env.cells.lookup x=↑c->c≠b)/\∀p∈X.pn++pins,p.1≠b)(keep:∀b o,b≠X.env.locals->b∉X.fs->b∉ch->s.heap.get? b=↑o->H b=none->h'.get? b=↑o)(f:∀b o,b≠X.env.locals->b∈X.fs->b∉ch->s.heap.get? b=↑o->H b=none->∃sl,h'.get? b=some { o with slots:=sl })(free:∀b o,b∉ch->s.heap.get? b=↑o->H b=none->H' b=none)(g:∀b o,b∉ch->s.heap.get? b=↑o->∃o',h'.get? b=↑o')(t:∀b xs,H b=↑(.tup xs)->H' b=↑(.tup xs))(y:∀b o u,H b=↑(.frz o u)->H' b=↑(.frz o u))(A:∀b ps,H b=↑(.tbl ps)->∃more,H' b=↑(.tbl (ps++more)))(M:∀m,s.heap.Ns X.env.locals m->h'.Ns X.env.locals m)(E:e_ X.prog X.w H' h')(N:AllBare g') :
  Inv X pins σ H' { s with heap:=h',gens:=g',drawn:=d',toks:=t' }:=by
 have B:∀b o,X.s₀.heap.get? b=↑o->b≠X.env.locals:=λb o e=>cf (b6 (bz e) I.ok.above);have Z:∀b o,X.s₀.heap.get? b=↑o->b∉X.ex->b∉ch:=λb o e D h=>by
  rcases(U b h).1 with z |z
  ·exact D z
  ·exact absurd (b6 (bz e) z) (ir _)
 have V:∀x c,X.env.cells.lookup x=↑c->∀v,s.heap.IsCell c v->h'.IsCell c v:=λx c e v O=>by
  obtain⟨o,j,hd⟩:=O;have Y:c∉ch:=λz=>(U c z).2.2.1 x c e rfl;by_cases G:c∈X.fs
  ·obtain⟨sl,q⟩:=f c o (I.cne x c e) G Y j (I.freeC x c e)
   exact⟨_,q,hd⟩
  ·exact⟨o,keep c o (I.cne x c e) G Y j (I.freeC x c e),hd⟩
 refine⟨I.ok,I.os,N,⟨λb o e n h D=>?_,λb o e n h D=>?_,λb o e n D=>?_,λb o e D=>?_,λb xs e=>t b xs (I.base.tups b xs e),λb o xs e=>y b o xs (I.base.frzs b o xs e),λb ps e=>?_⟩,?_,λx c e=>?_,?_,λx c e=>?_,λp J=>?_,E,I.len⟩
 ·exact keep b o (B b o e) h (Z b o e D) (I.base.keep b o e n h D) (I.base.free b o e n D)
 ·obtain⟨sl,a⟩:=I.base.slot b o e n h D
  obtain⟨F,C⟩:=f b _ (B b o e) h (Z b o e D) a (I.base.free b o e n D);exact⟨F,C⟩
 ·obtain⟨o',a⟩:=I.base.there b o e D
  exact free b o' (Z b o e D) a (I.base.free b o e n D)
 ·obtain⟨o',a⟩:=I.base.there b o e D
  exact g b o' (Z b o e D) a
 ·obtain⟨P,a⟩:=I.base.tbls b ps e
  obtain⟨Q,C⟩:=A b _ a;exact⟨P++Q,by rw[C,Array.append_assoc]⟩
 ·obtain⟨m,R,S⟩:=I.loc
  refine⟨m,M m R,λi x v a C T=>?_⟩;obtain⟨u,r,l⟩:=S i x v a C T;refine⟨u,r,?_⟩;rcases l with l | ⟨k,c,e,z⟩
  ·exact .inl l
  ·exact .inr ⟨k,c,e,V x c e _ z⟩
 ·obtain⟨v,z⟩:=I.cell x c e
  exact⟨v,V x c e v z⟩
 ·obtain⟨m,⟨o,_,_,j,_⟩,_⟩:=I.loc
  exact free _ o (λz=>(U _ z).2.1 rfl) j I.free
 ·obtain⟨v,o,j,hd⟩:=I.cell x c e
  exact free c o (λz=>(U c z).2.2.1 x c e rfl) j (I.freeC x c e)
 ·obtain⟨e,n,K,L,d⟩:=I.pin p J
  have Y:p.1∉ch:=λz=>(U p.1 z).2.2.2 p J rfl;exact⟨keep p.1 p.2 K L Y e n,free p.1 p.2 Y e n,K,L,d⟩
def Inv.un(I:Inv X pins σ H s)(u:Un X.fs [] H H' s.heap h')(U:e_ X.prog X.w H' h'):Inv X pins σ H' { s with heap:=h',toks:=t' }:=by
 obtain⟨m,⟨o,es,g,a,r⟩,_⟩:=id I.loc;obtain⟨sl,c⟩:=u.any a I.free ⋯;exact I.step (g':=s.gens) (d':=s.drawn) (ch:=[]) (λ_ z=>nomatch z) (λb o _ V _ e n=>u.keep b o e n V ⋯) (λb o _ V _ e n=>u.slot b o e n V ⋯) (λb o _ e n=>u.free b o e n ⋯) (λb o _ e=>u.there b o e ⋯) u.tups u.frzs u.tbls (λh d=>by
  obtain⟨o',Y,Z,D,f⟩:=d;rw[a] at D;cases D;exact⟨_,Y,Z,c,f⟩) U I.bare
def Inv.call(I:Inv X pins σ H s)(u:Un (fF X.stack) ch H H' s.heap h')(Y:e_ X.prog X.w H' h')(g:AllBare g')(U:∀b∈ch,(b∈X.ex\/X.s₀.heap.objs.size<=b)/\b≠X.env.locals/\(∀x c,X.env.cells.lookup x=↑c->c≠b)/\∀p∈X.pn++pins,p.1≠b) :
  Inv X pins σ H' { s with heap:=h',gens:=g',drawn:=d',toks:=t' }:=by
 obtain⟨m,⟨o,es,k,f,r⟩,_⟩:=id I.loc;obtain⟨sl,Z⟩:=u.any f I.free λz=>(U _ z).2.1 rfl;exact I.step (ch:=ch) U (λb o Z h D e n=>u.keep b o e n (λz=>(cr.mp (I.stkSub b z)).elim Z h) D) (λb o _ _ D e n=>u.any e n D) (λb o D e n=>u.free b o e n D) (λb o D e=>u.there b o e D) u.tups u.frzs u.tbls (λl i=>by
  obtain⟨o',a,d,V,j⟩:=i;rw[f] at V;cases V;exact⟨_,a,d,Z,j⟩) Y g
variable{it:Addr}
def Inv.turned(I:Inv X pins σ H s)(k:∀b o,b≠it->s.heap.get? b=↑o->h'.get? b=↑o)(Y:H it=none)(V:it≠X.env.locals)(h1:it∈X.ex\/X.s₀.heap.objs.size<=it)(h2:∀x c,X.env.cells.lookup x=↑c->c≠it)(Z:∀p∈X.pn++pins,p.1≠it):Inv X pins σ H { s with heap:=h',toks:=t' }:=by
 have U:∀b u,H b=↑u->b≠it:=λb u e z=>by rw[z,Y] at e;cases e
 refine I.step (g':=s.gens) (d':=s.drawn) (ch:=[it]) (λb a=>?_) (λb o _ _ D e _=>k b o (λz=>D (by simp[z])) e) (λb o _ _ D e _=>⟨o.slots,k b o (λz=>D (by simp[z])) e⟩) (λ_ _ _ _ n=>n)
  (λb o D e=>⟨o,k b o (λz=>D (by simp[z])) e⟩) (λ_ _ e=>e) (λ_ _ _ e=>e) (λb ps e=>⟨#[],by rw[e];simp⟩) (λm d=>?_) (λb u e=>?_) I.bare
 ·have e:b=it:=by simpa using a
  subst e;exact⟨h1,V,h2,Z⟩
 ·obtain⟨o,es,f,g,r⟩:=d
  exact⟨o,es,f,k _ o (Ne.symm V) g,r⟩
 ·refine(I.hok b u e).stay (λc v D q=>k c v ?_ q) (λ_ q=>q) λ_ _ q=>q
  rcases D with z |z
  ·rw[z];exact U b u e
  ·exact U c _ z
def Inv.tok(I:Inv X pins σ H s)(t:Nat):Inv X pins σ H { s with toks:=t }:=I.un (h':=s.heap) (t':=t) Un.refl I.hok
def Inv.kept{t':Nat}(I:Inv X pins σ H s)(k:∀b u,s.heap.get? b=↑u->h'.get? b=↑u):Inv X pins σ H { s with heap:=h',toks:=t' }:=I.un (Un.kept k) (I.hok.kept k)
def Inv.laid{a:Addr}{o:HO}{t':Nat}(I:Inv X pins σ H s)(k:∀b u,s.heap.get? b=↑u->h'.get? b=↑u)(D:s.heap.objs.size<=a)(new:bP X.prog X.w (aV H a o) h' a o) :
  Inv X pins σ (aV H a o) { s with heap:=h',toks:=t' }:=I.un (Un.laid k D (I.hok.fresh D)) (I.hok.laid k D new)
def Inv.write{x e:Addr}{o:HO}{t':Nat}(I:Inv X pins σ H s)(U:sO (H x))(V:e=x\/H e=↑(.own x))(k:∀b u,b≠e->s.heap.get? b=↑u->h'.get? b=↑u)(D:∃u,h'.get? e=↑u)(new:bP X.prog X.w (aV H x o) h' x o):Inv X pins σ (aV H x o) { s with heap:=h',toks:=t' }:=I.un (Un.write U V k D) (I.hok.write U V k D new)
def Inv.pins_of{D:kv}(I:Inv X pins σ H s)(h:∀p∈D,s.heap.get? p.1=↑p.2/\H p.1=none/\p.1≠X.env.locals/\p.1∉X.fs/\∀v,p.2.data≠.cell v):Inv X D σ H s :=
 ⟨I.ok,I.os,I.bare,I.base,I.loc,I.cell,I.free,I.freeC,λp U=>(dy.mp U).elim (λz=>I.pin p (fq _ z)) (h p),I.hok,I.len⟩
variable{x:Str}{N:h6}{i:Nat}{j:Int}
def xI(D:N.Nodup){j:Nat}(a:N[i]?=↑x)(b:N[j]?=↑x):i=j:=by
 obtain⟨h1,I⟩:=aj.mp a;obtain⟨h2,U⟩:=aj.mp b;exact(List.getElem_inj D).mp (I.trans U.symm)
variable{M:Model}{A:Around}{E:Value->Shared->Prop}{v:V}{Q:Unit->Shared->Prop}
def xJ(I:Inv X pins σ H s)(hN:X.N.Nodup)(hi:X.N[i]?=↑x)(Y:Loc X.env.scope x)(r:RelV v u)(h:∀s',Inv X pins (σ.set i ↑v) H s'->(∃a,Heap.SameBut a s.heap s'.heap/\(a=X.env.locals\/X.env.cells.lookup x=↑a))->Q () s')(hf:X.fn x=true\/X.env.scope.names.lookup x=some .local:=by first |exact .inl rfl |exact .inr rfl |assumption):wpAny M A (storeName X.env x u) Q E s:=by
 obtain⟨m,R,hl⟩:=id I.loc;have C:(X.env.scope.kind==.class || (X.env.scope.kind==.module && X.env.locals != X.env.globals))=false:=by rw[I.ok.kind];rfl
 have g:i<σ.length:=by rw[I.len];exact(aj.mp hi).1
 have cne:=I.cne;have U:∀ {a:Addr} {h':Heap},(∃o,s.heap.get? a=↑o/\H a=none)->Heap.SameBut a s.heap h'->e_ X.prog X.w H h':=λ{a h'} ha D b ob e=>by
  obtain⟨_,_,Z⟩:=ha;refine(I.hok b ob e).stay (λc L hc q=>(D.2 c ?_).trans q) (λ_ q=>q) λ_ _ q=>q;rintro rfl;rcases hc with rfl |hc
  ·rw[Z] at e;cases e
  ·rw[Z] at hc;cases hc
 rcases Y with hk |hk
 ·refine wpAny_storeName_local hk R (λh' S D=>?_) C
  obtain⟨oL,_,_,T,_⟩:=id R;refine h _ ⟨I.ok,I.os,I.bare,⟨λb o e n l Y=>?_,λb o e n l Y=>?_,I.base.free,λb o e Y=>?_,I.base.tups,I.base.frzs,I.base.tbls⟩,⟨_,S,λj y W V f e3=>?_⟩,λy c e=>?_,I.free,I.freeC,λp hp=>?_,U ⟨oL,T,I.free⟩ D,by simpa using I.len⟩ ⟨_,D,.inl rfl⟩
  ·exact(D.2 b (cf (b6 (bz e) I.ok.above))).trans (I.base.keep b o e n l Y)
  ·obtain⟨sl,V⟩:=I.base.slot b o e n l Y
   exact⟨sl,(D.2 b (cf (b6 (bz e) I.ok.above))).trans V⟩
  ·obtain⟨o',V⟩:=I.base.there b o e Y
   exact⟨o',(D.2 b (cf (b6 (bz e) I.ok.above))).trans V⟩
  ·by_cases t:j=i
   ·subst t
    rw[hi] at V;cases V;rw[fx g] at f;cases f;exact⟨u,r,.inl ⟨hk,by simp⟩⟩
   ·rw[d8 (Ne.symm t)] at f
    obtain⟨u',r',q⟩:=hl j y W V f e3;refine⟨u',r',?_⟩;rcases q with⟨k,e⟩ | ⟨k,c,e,z⟩
    ·refine .inl ⟨k,?_⟩
     have:y≠x:=λe=>t (xI hN V (e ▸ hi));simp[this,e]
    ·exact .inr ⟨k,c,e,z.sameBut D (cne y c e)⟩
  ·obtain⟨L,z⟩:=I.cell y c e
   exact⟨L,z.sameBut D (cne y c e)⟩
  ·obtain⟨e,n,O,nf,d⟩:=I.pin p hp
   exact⟨(D.2 p.1 O).trans e,n,O,nf,d⟩
 ·have B:X.fn x=true:=by
   rcases hf with z |z
   ·exact z
   ·rw[z] at hk;cases hk
  obtain⟨c,hc⟩:=I.ok.has x (.inl hk);obtain⟨L,z⟩:=I.cell x c hc;refine wpAny_storeName_cell I.ok.kind hk hc z (λh' F D=>?_);obtain⟨oc,G,J⟩:=id z;refine h { s with heap:=h' } ⟨I.ok,I.os,I.bare,⟨λb o e n l Y=>?_,λb o e n l Y=>?_,I.base.free,λb o e Y=>?_,I.base.tups,I.base.frzs,I.base.tbls⟩,⟨m,R.sameBut D (Ne.symm (cne x c hc)),λj y W V f e3=>?_⟩,λy P e=>?_,I.free,I.freeC,λp hp=>?_,U ⟨oc,G,I.freeC x c hc⟩ D,by simpa using I.len⟩ ⟨c,D,.inr hc⟩
  ·exact(D.2 b (cf (b6 (bz e) (I.ok.cab x c B hc)))).trans (I.base.keep b o e n l Y)
  ·obtain⟨sl,V⟩:=I.base.slot b o e n l Y
   exact⟨sl,(D.2 b (cf (b6 (bz e) (I.ok.cab x c B hc)))).trans V⟩
  ·obtain⟨o',V⟩:=I.base.there b o e Y
   exact⟨o',(D.2 b (cf (b6 (bz e) (I.ok.cab x c B hc)))).trans V⟩
  ·by_cases t:j=i
   ·subst t
    rw[hi] at V;cases V;rw[fx g] at f;cases f;exact⟨u,r,.inr ⟨.inl hk,c,hc,F⟩⟩
   ·rw[d8 (Ne.symm t)] at f
    obtain⟨u',r',q⟩:=hl j y W V f e3;refine⟨u',r',?_⟩;rcases q with q | ⟨k,P,e,z'⟩
    ·exact .inl q
    ·refine .inr ⟨k,P,e,z'.sameBut D ?_⟩
     rintro rfl;exact t (xI hN V (I.ok.inj _ _ _ e hc ▸ hi))
  ·by_cases K:P=c
   ·subst K;exact⟨_,F⟩
   ·obtain⟨w2,z2⟩:=I.cell y P e
    exact⟨w2,z2.sameBut D K⟩
  ·obtain⟨e,n,O,nf,d⟩:=I.pin p hp
   refine⟨(D.2 p.1 ?_).trans e,n,O,nf,d⟩;intro q;rw[q,G] at e;have q':oc=p.2:=cg e;exact d L (by rw[<-q'];exact J)
def xM(I:Inv X pins σ H s)(D:X.N.Nodup)(hi:X.N[i]?=↑x)(U:Loc X.env.scope x)(r:RelV v u)(h:∀s',Inv X pins (σ.set i ↑v) H s'->Q () s')(V:X.fn x=true\/X.env.scope.names.lookup x=some .local:=by first |exact .inl rfl |exact .inr rfl |assumption):wpAny M A (storeName X.env x u) Q E s :=
 xJ I D hi U r (λs' Y _=>h s' Y) V
variable{s':Shared}
def Inv.call'(I:Inv X pins σ H s)(V:s'.os=s.os)(u:Un (fF X.stack) ch H H' s.heap s'.heap)(D:e_ X.prog X.w H' s'.heap)(Y:AllBare s'.gens)(U:∀b∈ch,(b∈X.ex\/X.s₀.heap.objs.size<=b)/\b≠X.env.locals/\(∀x c,X.env.cells.lookup x=↑c->c≠b)/\∀p∈X.pn++pins,p.1≠b):Inv X pins σ H' s':=by
 obtain⟨h',g',d',t',o'⟩:=s';have e:o'=s.os:=V;subst e;exact I.call (g':=g') (t':=t') (d':=d') u D Y U
abbrev XK:=Value->Option Addr->Hp->Prop
abbrev St:=List (Option V)
abbrev VK:=V->Hp->Prop
abbrev TE:=St->Hp->VK->Prop
abbrev TT:=St->Hp->(Bool->Hp->Prop)->Prop
abbrev TA:=St->Hp->(k6->Hp->Prop)->Prop
structure hZ where
 nx:St->Hp->Prop
 rt:VK
 bk:St->Hp->Prop:=λ_ _=>False
 ct:St->Hp->Prop:=λ_ _=>False
abbrev TS:=hZ->St->Hp->Prop
inductive EP (X:Cx) (pins:kv) (σ:St) (Q:VK) (u:Value) (s':Shared):Prop
 |mk (v:V) (H':Hp) (i:Inv X pins σ H' s') (r:RelV v u) (q:Q v H'):EP X pins σ Q u s'
inductive TP (X:Cx) (pins:kv) (σ:St) (Q:Bool->Hp->Prop) (b:Bool) (s':Shared):Prop
 |mk (H':Hp) (i:Inv X pins σ H' s') (q:Q b H'):TP X pins σ Q b s'
inductive AP (X:Cx) (pins:kv) (σ:St) (Q:k6->Hp->Prop) (us:h7) (s':Shared):Prop
 |mk (vs:k6) (H':Hp) (i:Inv X pins σ H' s') (r:aP vs us) (q:Q vs H'):AP X pins σ Q us s'
def SP(X:Cx)(pins:kv)(D:hZ)(f:Flow)(s':Shared):Prop :=
 match f with
 | .next=>∃I H',Inv X pins I H' s'/\D.nx I H' | .brk=>∃I H',Inv X pins I H' s'/\D.bk I H' | .cont=>∃I H',Inv X pins I H' s'/\D.ct I H' | .ret u=>∃v I H',Inv X pins I H' s'/\RelV v u/\D.rt v H'
def PE(X:Cx)(e:Expr)(t:TE):Prop :=
 ∀(pins:kv) (s:Shared) (σ:St) (H:Hp) (Q:VK),Inv X pins σ H s->t σ H Q->wpAny (model X.prog X.w) X.A (eval e X.env) (EP X pins σ Q) X.xe s
def PT(X:Cx)(e:Expr)(t:TT):Prop :=
 ∀(pins:kv) (s:Shared) (σ:St) (H:Hp) (Q:Bool->Hp->Prop),Inv X pins σ H s->t σ H Q->wpAny (model X.prog X.w) X.A (isTrue e X.env (eval e X.env)) (TP X pins σ Q) X.xe s
def PW(X:Cx)(e:Expr)(t:TT):Prop :=
 ∀(whole:Sem Value) (pins:kv) (s:Shared) (σ:St) (H:Hp) (Q:Bool->Hp->Prop),Inv X pins σ H s->t σ H Q->wpAny (model X.prog X.w) X.A (isTrue e X.env whole) (TP X pins σ Q) X.xe s
variable{e:Expr}{t:TE}
def PW.pt{t:TT}(h:PW X e t):PT X e t:=h _
def PA(X:Cx)(es:i0)(t:TA):Prop :=
 ∀(pos:Pos) (pins:kv) (s:Shared) (σ:St) (H:Hp) (Q:k6->Hp->Prop),Inv X pins σ H s->t σ H Q->wpAny (model X.prog X.w) X.A (spliced (backTo pos (starEach es X.env))) (AP X pins σ Q) X.xe s
def PS(X:Cx)(st:Stmt)(t:TS):Prop :=
 ∀(pins:kv) (s:Shared) (σ:St) (H:Hp) (D:hZ),Inv X pins σ H s->t D σ H->wpAny (model X.prog X.w) X.A (exec st X.env) (SP X pins D) X.xe s
def hU(X:Cx)(st:List Stmt)(t:TS):Prop :=
 ∀(pins:kv) (s:Shared) (σ:St) (H:Hp) (D:hZ),Inv X pins σ H s->t D σ H->wpAny (model X.prog X.w) X.A (execs st X.env) (SP X pins D) X.xe s
def bI{t:Sem α}{Q D:α->Shared->Prop}(h:wpAny M A t Q E s)(I:∀a s,Q a s->D a s):wpAny M A t D E s:=jd h I λ_ _ x=>x
def jO(i:Nat):TE:=λσ H Q=>∃v,σ[i]?=↑↑v/\Q v H
def tC(v:V):TE:=λ_ H Q=>Q v H
variable{pos:Pos}
def Ie(V:X.N[i]?=↑x)(Y:lJ X.env.scope x)(hd:(x==("__debug__" : Str))=false:=by decide)(U:(x==("__classdict__" : Str))=false:=by decide):PE X (.Name x pos) (jO i):=by
 intro pins s σ H Q I h;obtain⟨v,e,h⟩:=h;obtain⟨m,Z,a⟩:=I.loc;obtain⟨u,r,l⟩:=a i x v V e Y;have D:EP X pins σ Q u s:=⟨v,H,I,r,h⟩;rcases l with⟨hk,b⟩ | ⟨hk,c,hc,hcell⟩
 ·exact wpAny_Name (wpAny_loadName_local I.ok.kind hk Z b D) hd
 ·rcases hk with hk |hk
  ·exact wpAny_Name (wpAny_loadName_cell I.ok.kind hk hc hcell D) hd
  ·exact wpAny_Name (wpAny_loadName_free I.ok.kind hk hc hcell D U) hd
def pG{i j pos}:PE X (.Constant ↥i j pos) (tC ↥i):=λ_ _ _ H _ I h=>wpAny_Constant_int ⟨.int i,H,I.tok _,⟨_,rfl⟩,h⟩
def Ig{b j pos}:PE X (.Constant (.bool b) j pos) (tC (.bl b)):=λ_ _ _ H _ I h=>Constant_bool ⟨.bl b,H,I,rfl,h⟩
def CM{x j pos}:PE X (.Constant (.str x) j pos) (tC (.str x)):=λ_ _ _ H _ I h=>Calls.Constant_str ⟨.str x,H,I.tok _,⟨_,rfl⟩,h⟩
def Gl(X:Cx)(x:Str):Prop:=X.env.kindOf x=some .globalImplicit
variable{σ:St}{Q:Value->Shared->Prop}
def lK(I:Inv X pins σ H s)(D:Gl X x)(U:X.mg x=↑u)(h:Q u s)(hd:(x==("__debug__" : Str))=false:=by decide):wpAny (model X.prog X.w) X.A (eval (.Name x pos) X.env) Q E s :=
 Calls.Name_function_global I.ok.kind D (Calls.loadGlobal_global (by rw[I.ok.glob];exact I.mod.glob.keeps I.bk) U h) hd
def y8(I:Inv X pins σ H s)(D:Gl X x)(U:X.mg x=none)(V:bootBuiltins x=↑u)(h:Q u s)(Y:x ≠ "__name__":=by decide)(hd:(x==("__debug__" : Str))=false:=by decide):wpAny (model X.prog X.w) X.A (eval (.Name x pos) X.env) Q E s:=by
 obtain⟨Z,h1,h2⟩:=I.mod.blt;exact Calls.Name_function_global I.ok.kind D (Calls.loadGlobal_builtin (by rw[I.ok.glob];exact I.mod.glob.keeps I.bk) U (by rw[I.ok.blt];exact h1.keeps I.bk) ((h2 x Y).trans V) h) hd
def CN(D:Gl X x)(U:X.mg x=↑u)(r:RelV v u)(hd:(x==("__debug__" : Str))=false:=by decide):PE X (.Name x pos) (tC v) :=
 λ_ _ _ H _ I h=>lK I D U ⟨v,H,I,r,h⟩ hd
def CO(D:Gl X x)(U:X.mg x=none)(V:bootBuiltins x=↑u)(r:RelV v u)(Y:x ≠ "__name__":=by decide)(hd:(x==("__debug__" : Str))=false:=by decide):PE X (.Name x pos) (tC v) :=
 λ_ _ _ H _ I h=>y8 I D U V ⟨v,H,I,r,h⟩ Y hd
def tB(t:TE):TT:=λσ H Q=>t σ H λx H1=>∃c,x=.bl c/\Q c H1
def Ih(h:PE X e t)(D:∀whole,isTrue e X.env whole=(do let v <-whole;standAt e.pos;holding [v] (truthy v)):=by intro _;rfl):PT X e (tB t):=by
 intro pins s σ H Q I U;refine isTrue_plain (bI (h pins s σ H _ I U) λv b V=>?_) (D _);obtain⟨x,H1,Y,Z,a⟩:=V;obtain⟨d,rfl,q⟩:=a;cases Z;exact oo ⟨H1,Y,q⟩
def xN(t u:TT):TT:=λσ H Q=>t σ H λc H1=>if c=true then u σ H1 Q else Q false H1
def Ii(t u:TT):TT:=λσ H Q=>t σ H λc H1=>if c=true then Q true H1 else u σ H1 Q
def xO(t:TT):TT:=λσ H Q=>t σ H λc H1=>Q (!c) H1
variable{a:Expr}{tA:TT}
def Ij(D:PT X a tA):PW X (.BoolOp .And [a] pos) tA:=by
 intro U pins s σ H Q I h;refine isTrue_and (bI (D pins s σ H Q I h) λc V e=>?_);cases c with
 |true=>exact isTrue_and_nil e |false=>exact e
def Ik(D:PT X a tA):PW X (.BoolOp .Or [a] pos) tA:=by
 intro U pins s σ H Q I h;refine isTrue_or (bI (D pins s σ H Q I h) λc V e=>?_);cases c with
 |false=>exact isTrue_or_nil e |true=>exact e
variable{b:Expr}{tB':TT}{rest:i0}
def Il(V:PT X a tA)(Y:PW X (.BoolOp .And (b::rest) pos) tB'):PW X (.BoolOp .And (a::b::rest) pos) (xN tA tB'):=by
 intro Z pins s σ H Q I h;refine isTrue_and (bI (V pins s σ H _ I h) λc d e=>?_);obtain⟨H1,D,U⟩:=e;cases c with
 |true=>exact Y Z pins d σ H1 Q D U |false=>exact⟨H1,D,U⟩
def Io(V:PT X a tA)(Y:PW X (.BoolOp .Or (b::rest) pos) tB'):PW X (.BoolOp .Or (a::b::rest) pos) (Ii tA tB'):=by
 intro Z pins s σ H Q I h;refine isTrue_or (bI (V pins s σ H _ I h) λc d e=>?_);obtain⟨H1,D,U⟩:=e;cases c with
 |true=>exact⟨H1,D,U⟩ |false=>exact Y Z pins d σ H1 Q D U
def Ip(D:PT X a tA):PT X (.UnaryOp .Not a pos) (xO tA):=by
 intro pins s σ H Q I h;refine isTrue_not (bI (D pins s σ H (λc H1=>Q (!c) H1) I h) λc V h=>?_);obtain⟨H1,U,q⟩:=h;exact⟨H1,U,q⟩
def Iq(ta tb:TE):TE:=λσ H Q=>ta σ H λx H1=>∃c,x=.bl c/\if c=true then tb σ H1 Q else Q (.bl false) H1
def Ir(ta:TE):TE:=λσ H Q=>ta σ H λx H1=>∃c,x=.bl c/\Q (.bl (!c)) H1
def Is{op}(h:PE X a t):PE X (.BoolOp op [a] pos) t:=λpins s σ H Q I D=>BoolOp_one (h pins s σ H Q I D)
variable{ta tb:TE}
def Iu(V:PE X a ta)(Y:PE X (.BoolOp .And (b::rest) pos) tb):PE X (.BoolOp .And (a::b::rest) pos) (Iq ta tb):=by
 intro pins s σ H Q I h;refine BoolOp_and (bI (V pins s σ H _ I h) λv Z d=>?_);obtain⟨x,H1,U,e,D⟩:=d;obtain⟨c,rfl,D⟩:=D;cases e;refine oo ?_;cases c with
 |true=>exact Y pins Z σ H1 Q U D |false=>exact⟨.bl false,H1,U,rfl,D⟩
def Iv(U:PE X a ta):PE X (.UnaryOp .Not a pos) (Ir ta):=by
 intro pins s σ H Q I h;refine UnaryOp_ (bI (U pins s σ H _ I h) λv b V=>?_);obtain⟨x,H1,Y,Z,D⟩:=V;obtain⟨c,rfl,D⟩:=D;cases Z;exact not_of (oo ⟨.bl (!c),H1,Y,rfl,D⟩)
def dI(K:kf)(H:Hp)(a:Addr)(xs:k6):Prop :=
 Rd H a (.lst xs) \/
  ∃(o:Obj) (its:k4) (n:Nat),K.lookup a=↑o/\o.cls=.type "list"/\o.dict=none/\o.data=.seq its n/\its.size<=sizeLine/\aP xs its.toList
def eX(K:kf)(H:Hp)(a:Addr)(xs:k6):Prop :=
 Rd H a (.tup xs) \/
  ∃(o:Obj) (its:k4) (n:Nat),K.lookup a=↑o/\o.cls=.type "tuple"/\o.data=.seq its n/\its.size<=sizeLine/\aP xs its.toList
def xP:Value->Option V
 | .none=>some .non | .bool b=>↑(.bl b) | .int i _=>↑↥i
 | .str x _=>↑(.str x) | .bytes b _=>↑(.byt b) | .float b _=>↑(.flt b) | .ref a=>↑(.ref a) | .type n=>↑(.ty n) |_=>none
def RelV.abs{x:V}(r:RelV x u):xP u=↑x:=by
 cases x with
 |non=>cases r;rfl
 |bl _=>cases r;rfl
 |int _=>obtain⟨t,rfl⟩:=r;rfl |str _=>obtain⟨t,rfl⟩:=r;rfl |byt _=>obtain⟨t,rfl⟩:=r;rfl |flt _=>obtain⟨t,rfl⟩:=r;rfl |ref _=>cases r;rfl
 |ty _=>cases r;rfl
def RelV.inj{x y:V}{u:Value}(r:RelV x u)(q:RelV y u):x=y:=cg (r.abs.symm.trans q.abs)
def aP.inj{xs ys:k6}{us:h7}(h:aP xs us)(g:aP ys us):xs=ys:=by
 induction h generalizing ys with
 |nil=>cases g;rfl
 |cons r t ih=>cases g with |cons p q=>rw[r.inj p,ih q]
variable{a:Addr}{K:kf}
def eX.of(h:H a=↑(.tup xs)):eX K H a xs:=.inl (.inl h)
def Inv.list(I:Inv X pins σ H s)(h:dI X.K H a xs):∃its:h7,aP xs its/\PlainL s.heap a its.toArray/\xs.length<=sizeLine:=by
 rcases h with h | ⟨o,its,n,hk,hc,hd,hs,hz,r⟩
 ·obtain⟨z,its,n,r,e⟩:=h.ok I.hok
  exact⟨its,r,⟨_,n,e,rfl,rfl,rfl⟩,z⟩
 ·refine⟨its.toList,r,⟨o,n,I.kIn a o hk,hc,hd,by simpa using hs⟩,?_⟩
  have e:=r.length;simp only[Array.length_toList] at e;omega
def Inv.tuple(I:Inv X pins σ H s)(h:eX X.K H a xs):∃its:h7,aP xs its/\IsTup s.heap a its.toArray/\xs.length<=sizeLine:=by
 rcases h with h | ⟨o,its,n,hk,hc,hs,hz,r⟩
 ·obtain⟨z,its,r,p⟩:=h.ok I.hok
  exact⟨its,r,p,z⟩
 ·refine⟨its.toList,r,⟨o,I.kIn a o hk,hc,n,by simpa using hs⟩,?_⟩
  have e:=r.length;simp only[Array.length_toList] at e;omega
def Inv.list_inj(I:Inv X pins σ H s)(h:dI X.K H a xs)(h':dI X.K H a ys):xs=ys:=by
 obtain⟨its,r,⟨o,n,e,_,_,d⟩,_⟩:=I.list h;obtain⟨its',D,⟨o',U,e',_,_,d'⟩,_⟩:=I.list h';rw[e] at e';cases e';rw[d] at d';injection d' with d1 _;have:its=its':=by simpa using congrArg Array.toList d1
 subst this;exact r.inj D
def Inv.tuple_inj(I:Inv X pins σ H s)(h:eX X.K H a xs)(h':eX X.K H a ys):xs=ys:=by
 obtain⟨its,r,⟨o,e,_,n,d⟩,_⟩:=I.tuple h;obtain⟨its',D,⟨o',e',_,U,d'⟩,_⟩:=I.tuple h';rw[e] at e';cases e';rw[d] at d';injection d' with d1 _;have:its=its':=by simpa using congrArg Array.toList d1
 subst this;exact r.inj D
abbrev Cx.wish(X:Cx)(E:Value->Shared->Prop):Cx:={ X with xe:=E }
abbrev Cx.nox(X:Cx):Cx:=X.wish λ_ _=>False
def Cx.Ok.wish(ok:X.Ok)(E:Value->Shared->Prop):(X.wish E).Ok :=
 ⟨ok.mod,ok.kind,ok.glob,ok.blt,ok.above,ok.inj,ok.has,ok.cab,ok.hd,ok.frames,ok.stk,ok.exf,ok.bs,ok.bsz,ok.noex,ok.exfs,ok.funs,ok.frf⟩
def Cx.Ok.unwish(ok:(X.wish E).Ok):X.Ok :=
 ⟨ok.mod,ok.kind,ok.glob,ok.blt,ok.above,ok.inj,ok.has,ok.cab,ok.hd,ok.frames,ok.stk,ok.exf,ok.bs,ok.bsz,ok.noex,ok.exfs,ok.funs,ok.frf⟩
def Inv.wish(I:Inv X pins σ H s)(E:Value->Shared->Prop):Inv (X.wish E) pins σ H s:=⟨I.ok.wish E,I.os,I.bare,I.base,I.loc,I.cell,I.free,I.freeC,I.pin,I.hok,I.len⟩
def Inv.unwish(I:Inv (X.wish E) pins σ H s):Inv X pins σ H s:=⟨I.ok.unwish,I.os,I.bare,I.base,I.loc,I.cell,I.free,I.freeC,I.pin,I.hok,I.len⟩
def SP.unwish{D:hZ}{f:Flow}{s':Shared}(h:SP (X.wish E) pins D f s'):SP X pins D f s':=by
 cases f with
 |next=>obtain⟨U,H',I,q⟩:=h;exact⟨U,H',I.unwish,q⟩ |brk=>obtain⟨U,H',I,q⟩:=h;exact⟨U,H',I.unwish,q⟩ |cont=>obtain⟨U,H',I,q⟩:=h;exact⟨U,H',I.unwish,q⟩ |ret u=>obtain⟨v,U,H',I,r,q⟩:=h;exact⟨v,U,H',I.unwish,r,q⟩
variable{t:TS}{st:Stmt}
def hU.nox{st:List Stmt}(h:hU X.nox st t):hU X st t:=λpins s σ H D I U =>
 jd (h pins s σ H D (I.wish _) U) (λ_ _ q=>q.unwish) λ_ _ z=>False.elim z
def Iw:TS:=λD σ H=>D.nx σ H
def xR(t u:TS):TS:=λD σ H=>t { D with nx:=u D } σ H
def Ix:hU X [] Iw:=λ_ _ σ H _ I h=>m4 ⟨σ,H,I,h⟩
variable{u:TS}{rest:List Stmt}
def Iy(h1:PS X st t)(h2:hU X rest u):hU X (st::rest) (xR t u):=by
 intro pins s σ H D I h;refine wpAny_execs_cons (bI (h1 pins s σ H { D with nx:=u D } I h) λf V q=>?_);cases f with
 |next =>
   obtain⟨U,H',Y,q⟩:=q;exact h2 pins V U H' D Y q
 |ret v=>exact q |brk=>exact q |cont=>exact q
def Iz(h1:PS X st t):hU X [st] t:=by
 intro pins s σ H D I h;refine wpAny_execs_cons (bI (h1 pins s σ H D I h) λf U q=>?_);cases f with
 |next=>exact m4 q |ret v=>exact q |brk=>exact q |cont=>exact q
def Inv.quiet(I:Inv X pins σ H s):interactive X.env=false:=by simp[interactive,I.ok.kind]
def IA(te:TE):TS:=λD σ H=>te σ H λ_ H1=>D.nx σ H1
variable{te:TE}
def CP(U:PE X e te)(V:‹swapsWith e none pos.line X.env=pure false›):PS X (.Expr e pos) (IA te):=by
 intro pins s σ H D I h;exact wpAny_Expr_any (bI (U pins s σ H _ I h) λv s1 ⟨x,H1,I1,r1,q1⟩=>⟨σ,H1,I1,q1⟩) I.quiet V
def xS(te:TE):TS:=λD σ H=>te σ H D.rt
def sQ(U:PE X e te):PS X (.Return ↑e pos) (xS te):=by
 intro pins s σ H D I h;exact wpAny_Return_some (bI (U pins s σ H _ I h) λv s1 ⟨x,H1,I1,r1,q1⟩=>⟨x,σ,H1,I1,r1,q1⟩)
def xT(c:TT)(t u:TS):TS:=λD σ H=>c σ H λb H1=>if b=true then t D σ H1 else u D σ H1
variable{a c:Expr}{tc:TT}
def IB{a b:List Stmt}(Z:PT X c tc)(e:hU X a t)(f:hU X b u):PS X (.If c a b pos) (xT tc t u):=by
 intro pins s σ H D I h;refine wpAny_If (bI (Z pins s σ H _ I h) λd U g=>?_);obtain⟨H1,V,Y⟩:=g;cases d with
 |true=>exact e pins U σ H1 D V Y |false=>exact f pins U σ H1 D V Y
def IC:TS:=λ_ _ _=>False
def ID:PS X st IC:=λ_ _ _ _ _ _ h=>h.elim
abbrev TG:=V->St->Hp->(St->Hp->Prop)->Prop
abbrev lF:=k6->St->Hp->(St->Hp->Prop)->Prop
def PG(X:Cx)(D:Expr)(t:TG):Prop :=
 ∀(pins:kv) (s:Shared) (σ:St) (H:Hp) (v:V) (u:Value) (Q:St->Hp->Prop),Inv X pins σ H s->RelV v u->t v σ H Q ->
  wpAny (model X.prog X.w) X.A (assign D X.env u) (λ_ s'=>∃I H',Inv X pins I H' s'/\Q I H') X.xe s
def jP(X:Cx)(ts:i0)(t:lF):Prop :=
 ∀(pins:kv) (s:Shared) (σ:St) (H:Hp) (vs:k6) (us:h7) (Q:St->Hp->Prop),Inv X pins σ H s->aP vs us->t vs σ H Q ->
  wpAny (model X.prog X.w) X.A (assignInOrder ((assignEach ts X.env).map (·.2)) us) (λ_ s'=>∃D H',Inv X pins D H' s'/\Q D H') X.xe s
abbrev jQ:=V->V->V->Hp->(Hp->Prop)->Prop
def lL(X:Cx)(t:jQ):Prop :=
 ∀(pins:kv) (s:Shared) (σ:St) (H:Hp) (o i v:V) (D I u:Value) (Q:Hp->Prop),Inv X pins σ H s->RelV o D->RelV i I->RelV v u->t o i v H Q ->
  wpAny (model X.prog X.w) X.A (setItem D I u) (λ_ s'=>∃H',Inv X pins σ H' s'/\Q H') X.xe s
abbrev nE:=V->V->Hp->VK->Prop
def sR(X:Cx)(op:Operator)(t:nE):Prop :=
 ∀(pins:kv) (s:Shared) (σ:St) (H:Hp) (x y:V) (v u:Value) (Q:VK),Inv X pins σ H s->RelV x v->RelV y u->t x y H Q ->
  wpAny (model X.prog X.w) X.A (inplaceOp op v u) (EP X pins σ Q) X.xe s
def p8(i:Nat):TG:=λv σ H Q=>Q (σ.set i ↑v) H
def xU(D:X.N.Nodup)(hi:X.N[i]?=↑x)(U:Loc X.env.scope x)(V:X.fn x=true\/X.env.scope.names.lookup x=some .local:=by first |exact .inl rfl |exact .inr rfl |assumption):PG X (.Name x pos) (p8 i):=by
 intro pins s σ H v u Q I r h;exact wpAny_assign_Name (xM I D hi U r (λs' Y=>⟨_,H,Y,h⟩) V)
def pH:lF:=λvs σ H Q=>vs=[]/\Q σ H
def CQ(t:TG)(u:lF):lF:=λvs σ H Q=>∃v r,vs=v::r/\t v σ H λD H'=>u r D H' Q
def IE:jP X [] pH:=by
 intro pins s σ H vs us Q I r h;obtain⟨e,h⟩:=h;subst e;cases r;exact assignInOrder_nil ⟨σ,H,I,h⟩
variable{u:Value}{t:TA}{es:i0}
def IF{t:TG}{u:lF}(h1:PG X e t)(h2:jP X es u)(U:‹(assignEach (e::es) X.env).map (·.2)=assign e X.env::(assignEach es X.env).map (·.2)›):jP X (e::es) (CQ t u):=by
 intro pins s σ H vs us Q I r h;obtain⟨v,c,V,h⟩:=h;subst V;cases r with
 |cons r rr =>
   rw[U];refine assignInOrder_cons (bI (h1 pins s σ H _ _ _ I r h) λ_ Y Z=>?_);obtain⟨D,H1,a,b⟩:=Z;exact h2 pins Y D H1 _ _ Q a rr b
def pI(K:kf)(n:Nat)(t:lF):TG:=λv σ H Q=>∃a xs,v=.ref a/\eX K H a xs/\xs.length=n/\t xs σ H Q
variable{k n:Nat}
def CS{t:lF}(Y:X.calm=true)(h:jP X es t)(Z:‹(assignEach es X.env).length=n›)(D:‹(assignEach es X.env).findIdx? (·.1)=none›):PG X (.Tuple es k pos) (pI X.K n t):=by
 intro pins s σ H v u Q I r U;obtain⟨a,xs,c,d,f,U⟩:=U;subst c;cases r;obtain⟨its,V,g,l⟩:=I.tuple d;refine assign_Tuple_tuple (I.ok.hd Y) g (by simp[Z,<-f,V.length]) D λh' i=>?_;have j:Inv X pins σ H { s with heap:=h' }:=I.kept (t':=s.toks) λb o e=>i b o (cf (bz e)) e;exact h pins _ σ H xs _ Q j (by simpa using V) U
def xV(to ti:TE)(t:jQ):TG:=λv σ H Q=>to σ H λo H1=>ti σ H1 λi H2=>t o i v H2 λD=>Q σ D
variable{to ti:TE}
def sS{o i:Expr}{t:jQ}(Y:PE X o to)(hi:PE X i ti)(Z:lL X t)(a:∀v,assign (.Subscript o i pos) X.env v=(do
   let D <-holding [v] (eval o X.env);let U <-holding [v,D] (eval i X.env)
   standAt pos
   holding [v,D,U] (setItem D U v)
   release [v,D,U] []):=by intro _;rfl):PG X (.Subscript o i pos) (xV to ti t):=by
 intro pins s σ H v u Q I r h;rw[a];refine ax (gk (bI (Y pins s σ H _ I h) λD b V=>?_));obtain⟨x,H1,c,d,e⟩:=V;refine ax (gk (bI (hi pins b σ H1 _ c e) λU s2 V=>?_));obtain⟨y,H2,f,g,j⟩:=V;refine ax (ph (ax (gk (bI (Z pins s2 σ H2 x y v D U u _ f d g r j) λ_ n V=>?_))));obtain⟨k,l,m⟩:=V;exact wpAny_release ⟨σ,k,l,m⟩
def fI(te:TE)(g:TG):TS:=λD σ H=>te σ H λx H1=>g x σ H1 D.nx
variable{tg:Expr}{g:TG}
def pJ(U:PE X e te)(V:PG X tg g)(Y:‹swapsWithSole [tg] e pos.line X.env=pure false›)(Z:‹swappedStores [tg] e X.env=pure none›)(h1:‹(assignEach [tg] X.env).map (·.2)=[assign tg X.env]›):PS X (.Assign [tg] e pos) (fI te g):=by
 intro pins s σ H D I h;refine wpAny_Assign_stores (bI (U pins s σ H _ I h) λv a b=>?_) Y Z;obtain⟨x,H1,c,d,f⟩:=b;rw[h1];exact bI (V pins a σ H1 x v _ c d f) λ_ s2 q=>q
variable{pos':Pos}
def xW(U:X.N.Nodup)(hi:X.N[i]?=↑x)(V:Loc X.env.scope x)(Y:PE X e te)(Z:‹swapsWith e ↑(.Name x pos') pos.line X.env=pure false›)(a:X.fn x=true\/X.env.scope.names.lookup x=some .local:=by first |exact .inl rfl |exact .inr rfl |assumption) :
  PS X (.Assign [.Name x pos'] e pos) (fI te (p8 i)):=by
 intro pins s σ H D I h;refine wpAny_Assign_Name (bI (Y pins s σ H _ I h) λv j b=>?_) Z;obtain⟨y,H1,c,d,f⟩:=b;exact xM c U hi V d (λs2 g=>⟨_,H1,g,f⟩) a
def pK(i:Nat)(te:TE)(ti:nE):TS:=λD σ H=>∃x,σ[i]?=↑↑x/\te σ H λy H1=>ti x y H1 λz H2=>D.nx (σ.set i ↑z) H2
variable{op:Operator}
def IG{ti:nE}(a:X.N.Nodup)(hi:X.N[i]?=↑x)(V:Loc X.env.scope x)(b:PE X e te)(d:sR X op ti)(f:X.fn x=true\/X.env.scope.names.lookup x=some .local:=by first |exact .inl rfl |exact .inr rfl |assumption) :
  PS X (.AugAssign (.Name x pos') op e pos) (pK i te ti):=by
 intro pins s σ H D I h;obtain⟨v,g,h⟩:=h;obtain⟨m,j,n⟩:=I.loc;have Y:lJ X.env.scope x:=by rcases V with k |k;exact .inl k;exact .inr (.inl k)
 obtain⟨u,r,l⟩:=n i x v hi g Y;refine wpAny_AugAssign_Name ?_;have go:wpAny (model X.prog X.w) X.A (eval e X.env) (λw s₂=>wpAny (model X.prog X.w) X.A (inplaceOp op u w) (λr U=>wpAny (model X.prog X.w) X.A (storeName X.env x r) (λ_=>SP X pins D .next) X.xe U) X.xe s₂) X.xe s:=by
  refine bI (b pins s σ H _ I h) λw o Z=>?_;obtain⟨y,H1,p,q,t⟩:=Z;refine bI (d pins o σ H1 v y u w _ p r q t) λz s2 Z=>?_;obtain⟨J,H2,B,C,E⟩:=Z;exact xM B a hi V C (λK F=>⟨_,H2,F,E⟩) f
 rcases l with⟨hk,G⟩ | ⟨hk,c,hc,hcell⟩
 ·exact wpAny_loadName_local I.ok.kind hk j G go
 ·rcases hk with hk |hk
  ·exact wpAny_loadName_cell I.ok.kind hk hc hcell go
  ·rcases V with k |k
   ·have:X.env.scope.names.lookup x=some .free:=hk
    rw[k] at this;cases this
   ·have:X.env.scope.names.lookup x=some .free:=hk
    rw[k] at this;cases this
def CT(to ti te:TE)(I:V->V->Hp->VK->Prop)(Y:nE)(U:jQ):TS:=λD σ H=>to σ H λo H1=>ti σ H1 λi H2=>I o i H2 λx Z=>te σ Z λy a=>Y x y a λz b=>U o i z b λc=>D.nx σ c
def pL(X:Cx)(t:V->V->Hp->VK->Prop):Prop :=
 ∀(pins:kv) (s:Shared) (σ:St) (H:Hp) (o i:V) (D I:Value) (Q:VK),Inv X pins σ H s->RelV o D->RelV i I->t o i H Q ->
  wpAny (model X.prog X.w) X.A (getItem D I) (EP X pins σ Q) X.xe s
variable{i:Int}
def CU{o i:Expr}{Y:V->V->Hp->VK->Prop}{c:nE}{Z:jQ}{d:Pos}(m:PE X o to)(hi:PE X i ti)(n:pL X Y)(p:PE X e te)(q:sR X op c)(r:lL X Z)(t:∀a b new,augStore i a b new=(do holding [new,a,b] (setItem a b new);release [new,a,b] [];pure .next):=by intros;rfl):PS X (.AugAssign (.Subscript o i d) op e pos) (CT to ti te Y c Z):=by
 intro pins s σ H D I h;refine wpAny_AugAssign_SubscriptAny (bI (m pins s σ H _ I h) λa u U=>?_) t;obtain⟨g,H1,w,j,x⟩:=U;refine bI (hi pins u σ H1 _ w x) λb s2 U=>?_;obtain⟨k,H2,y,l,z⟩:=U;refine bI (n pins s2 σ H2 g k a b _ y j l z) λf A U=>?_;obtain⟨B,C,E,r3,F⟩:=U;refine bI (p pins A σ C _ E F) λv G U=>?_;obtain⟨J,K,L,M,N⟩:=U;refine bI (q pins G σ K B J f v _ L r3 M N) λnew O U=>?_;obtain⟨P,Q,R,S,T⟩:=U;exact bI (r pins O σ Q g k P a b new _ R j l S T) λ_ s6 ⟨H6,I6,q6⟩=>⟨σ,H6,I6,q6⟩
def sT(f:Int->Int->Int):nE:=λx y H Q=>∃i j,x=.int i/\y=.int j/\Q ↥(f i j) H
def CV:sR X .Add (sT λi j=>i+j):=by
 intro pins s σ H x y v u Q I D U h;obtain⟨i,j,V,Y,q⟩:=h;subst V;subst Y;obtain⟨t,rfl⟩:=D;obtain⟨t',rfl⟩:=U;exact iadd_int ⟨.int _,H,I.tok _,⟨_,rfl⟩,q⟩
def IH:sR X .Sub (sT λi j=>i-j):=by
 intro pins s σ H x y v u Q I D U h;obtain⟨i,j,V,Y,q⟩:=h;subst V;subst Y;obtain⟨t,rfl⟩:=D;obtain⟨t',rfl⟩:=U;exact isub_int ⟨.int _,H,I.tok _,⟨_,rfl⟩,q⟩
def II(c:TT)(tb:TS):TS:=λD σ H=>∃W:Nat->St->Hp->Prop,(∃m,W m σ H)/\∀m σ H,W m σ H ->
 c σ H λb H1=>if b=true then ∃N:St->Hp->Prop,(∀I H',N I H'->∃U,U<m/\W U I H')/\tb { D with nx:=N,ct:=N,bk:=D.nx } σ H1 else D.nx σ H1
variable{body:List Stmt}
def IJ{tb:TS}(k:PassesOwn (model X.prog X.w) X.A X.env X.xe)(o:PT X c tc)(p:hU X body tb):PS X (.While c body [] pos) (II tc tb):=by
 intro pins s σ H D I h;obtain⟨W,⟨q,r⟩,turn⟩:=h;refine wpAny_While (codeAny_whileLoop (λn s'=>∃V H',Inv X pins V H' s'/\W n V H') ?_ q ⟨σ,H,I,r⟩);rintro n t ⟨σ1,H1,I1,w1⟩;refine j9 k (bI (o pins t σ1 H1 _ I1 (turn n σ1 H1 w1)) λb s2 u=>?_);obtain⟨H2,l,Z⟩:=u;cases b with
 |true =>
   obtain⟨N,m,Z⟩:=Z;rw[aq rfl];refine j9 k (bI (p pins s2 σ1 H2 _ l Z) λf x a=>?_);cases f with
   |next =>
     obtain⟨U,Y,d,e⟩:=a;obtain⟨g,i,j⟩:=m U Y e;exact⟨g,i,U,Y,d,j⟩
   |cont =>
     obtain⟨U,Y,d,e⟩:=a;obtain⟨g,i,j⟩:=m U Y e;exact⟨g,i,U,Y,d,j⟩
   |brk=>exact a |ret v=>exact a
 |false =>
   rw[b7 dq];exact m4 ⟨σ1,H2,l,Z⟩
structure It where
 go:Nat->Hp->Prop
 yld:Nat->Hp->V->Hp->Prop
 stop:Nat->Hp->Prop
def d_(X:Cx)(pins:kv)(H:Hp)(b:Addr):Prop :=
 H b=none/\b≠X.env.locals/\b∉X.fs/\(b∈X.ex\/X.s₀.heap.objs.size<=b)/\(∀x c,X.env.cells.lookup x=↑c->c≠b)/\∀p∈X.pn++pins,p.1≠b
def Inv.fpOk{b:Addr}(I:Inv X pins σ H s)(D:s.heap.objs.size<=b)(U:H' b=none):d_ X pins H' b:=by
 refine⟨U,li (b6 I.lt D),I.nofs D,.inr (d7 I.sz D),λx c e z=>?_,λp V z=>?_⟩
 ·obtain⟨v,q⟩:=I.cell x c e
  exact absurd (b6 q.lt (by rw[z];exact D)) (ir _)
 ·exact absurd (b6 (bz (I.pin p V).1) (by rw[z];exact D)) (ir _)
structure lM (Cm:Cx->Prop) (P:Program) (w:World) (K:kf) (tg:Expr) (J:It) (fp:ia) (it:Addr) (tn:Nat->Heap->Prop):Prop where
 mem:it∈fp
 obj:∀i h,tn i h->∀b∈fp,∃o,h.get? b=↑o/\∀v,o.data≠.cell v
 keep:∀i h h',tn i h->(∀b∈fp,∀o,h.get? b=↑o->h'.get? b=↑o)->tn i h'
 item:∀(X:Cx),X.prog=P->X.w=w->X.K=K->Cm X->∀(i:Nat) (pins:kv) (s:Shared) (σ:St) (H:Hp) (E:Value->Shared->Prop),Inv X pins σ H s->(∀b∈fp,d_ X pins H b)->tn i s.heap->J.go i H ->
  wpAny (model P w) X.A (pyNext (.ref it)) (λr s1=>∃u,r=↑u /\
   wpAny (model P w) X.A (letOwnedTupleGo tg (.ref it) u) (λ_ s2=>∃x H',Inv X pins σ H' s2/\RelV x u/\J.yld i H x H'/\tn (i+1) s2.heap/\∀b∈fp,H' b=none) E s1) E s
 done:∀(X:Cx),X.prog=P->X.w=w->X.K=K->Cm X->∀(i:Nat) (pins:kv) (s:Shared) (σ:St) (H:Hp) (E:Value->Shared->Prop),Inv X pins σ H s->(∀b∈fp,d_ X pins H b)->tn i s.heap->J.stop i H ->
  wpAny (model P w) X.A (pyNext (.ref it)) (λr s1=>r=none/\Inv X pins σ H s1) E s
 self:∀(A:Around) (i:Nat) (s:Shared) (Q:Value->Shared->Prop) (E:Value->Shared->Prop),tn i s.heap->Q (.ref it) s->wpAny (model P w) A (pyIter (.ref it)) Q E s
abbrev i_:=lM λX=>X.calm=true
abbrev TI:=St->Hp->(It->Hp->Prop)->Prop
def pM(Cm:Cx->Prop)(X:Cx)(pins:kv)(σ:St)(tg:Expr)(R:It->Hp->Prop)(D:Value)(s2:Shared):Prop :=
 ∃(it:Addr) (fp:ia) (I:Nat->Heap->Prop) (J:It) (H':Hp),D=.ref it/\Inv X pins σ H' s2/\lM Cm X.prog X.w X.K tg J fp it I/\I 0 s2.heap/\(∀b∈fp,d_ X pins H' b)/\R J H'
def kN(Cm:Cx->Prop)(X:Cx)(tg iter:Expr)(wi:TI):Prop :=
 ∀(pins:kv) (s:Shared) (σ:St) (H:Hp) (R:It->Hp->Prop),Inv X pins σ H s->wi σ H R ->
  wpAny (model X.prog X.w) X.A (eval iter X.env) (λv D=>wpAny (model X.prog X.w) X.A (pyIter v) (pM Cm X pins σ tg R) X.xe D) X.xe s
abbrev PI:=kN λX=>X.calm=true
variable{vs:k6}
def sU{n:String}{vs:k4}{Q:Unit->Shared->Prop}(I:s.heap.get? it=↑o)(U:o.cls=.type n)(hd:o.data=.fields vs)(V:["enumerate", "zip", "dict_itemiterator", "dict_reverseitemiterator", "odict_iterator", "itertools.zip_longest", "itertools.pairwise"].contains n=false)(D:Q () s):wpAny M A (letOwnedTupleGo tg (.ref it) u) Q E s:=by
 unfold letOwnedTupleGo;cases tg <;> first
  |exact dg D
  | (cases u <;> first
      |exact dg D
      | (refine ax (wpAny_load I ?_)
         rw[U,hd];show wpAny M A (if (["enumerate", "zip", "dict_itemiterator", "dict_reverseitemiterator", "odict_iterator", "itertools.zip_longest", "itertools.pairwise"].contains n && vs[0]?==↑(rawInt _))=true then _ else _) Q E s;rw[b7 (by intro h;rw[V,Bool.false_and] at h;cases h)];exact dg D))
def xX(K:kf)(a:Addr):It :=
 ⟨λi H=>∃xs x,dI K H a xs/\xs[i]?=↑x,λi H x H'=>H'=H/\∀xs,dI K H a xs->xs[i]?=↑x,λi H=>∃xs,dI K H a xs/\xs.length<=i⟩
def xY(K:kf)(a:Addr):It :=
 ⟨λi H=>∃xs x,eX K H a xs/\xs[i]?=↑x,λi H x H'=>H'=H/\∀xs,eX K H a xs->xs[i]?=↑x,λi H=>∃xs,eX K H a xs/\xs.length<=i⟩
def kO(lo:Int)(n:Nat):It:=⟨λi _=>i<n,λi H x H'=>H'=H/\x=.int (lo+i),λi _=>n<=i⟩
def IK(a it:Addr):i_ P w K tg (xX K a) [it] it (λi h=>h.IsListIter it a i) where
 mem:=by simp
 obj:=λi h st b D=>by
  have e:b=it:=by simpa using D
  subst e;obtain⟨o,e,c,d⟩:=st;exact⟨o,e,λv z=>by rw[d] at z;cases z⟩
 keep:=λi h h' st k=>st.at λo e=>k it ⋯ o e
 item:=by
  intro X hP Z f y i pins s σ H E I V st g;subst hP Z f;obtain⟨xs,x,Y,j⟩:=g;obtain⟨its,l,p,A⟩:=I.list Y;obtain⟨u,B,C⟩:=l.get j;obtain⟨m,n,F,q,r,t⟩:=V it ⋯;refine qw st p.isList (x:=u) (by simpa using B) λh' U G=>?_;have J:Inv X pins σ H { s with heap:=h' }:=I.turned (t':=s.toks) (λb o D e=>(G.2 b D).trans e) m n q r t;obtain⟨o,e,c,d⟩:=id U;exact⟨u,rfl,sU (s:={ s with heap:=h' }) e c d (by decide) ⟨x,H,J,C,⟨rfl,λys L=>by rw[I.list_inj L Y];exact j⟩,U,λb D=>(V b D).1⟩⟩
 done:=by
  intro X hP Z f y i pins s σ H E I V st g;subst hP Z f;obtain⟨xs,Y,j⟩:=g;obtain⟨its,l,p,A⟩:=I.list Y;obtain⟨m,n,F,q,r,t⟩:=V it ⋯;have N:=l.length;exact tf (I.ok.hd y) st p.isList (by simp;omega) λh' M=>⟨rfl,I.turned (t':=s.toks) (λb o D e=>M b o D e) m n q r t⟩
 self:=λ_ _ _ _ _ st h=>wpAny_pyIter_listiter st h
def IL(a it:Addr):i_ P w K tg (xY K a) [it] it (λi h=>h.IsTupleIter it a i) where
 mem:=by simp
 obj:=λi h st b D=>by
  have e:b=it:=by simpa using D
  subst e;obtain⟨o,e,c,d⟩:=st;exact⟨o,e,λv z=>by rw[d] at z;cases z⟩
 keep:=λi h h' st k=>st.at λo e=>k it ⋯ o e
 item:=by
  intro X hP Z f y i pins s σ H E I V st g;subst hP Z f;obtain⟨xs,x,Y,j⟩:=g;obtain⟨its,l,p,A⟩:=I.tuple Y;obtain⟨u,B,C⟩:=l.get j;obtain⟨m,n,F,q,r,t⟩:=V it ⋯;refine wpAny_pyNext_tuple_item st (show s.heap.IsTuple a its.toArray from p) (x:=u) (by simpa using B) λh' U G=>?_;have J:Inv X pins σ H { s with heap:=h' }:=I.turned (t':=s.toks) (λb o D e=>(G.2 b D).trans e) m n q r t;obtain⟨o,e,c,d⟩:=id U;exact⟨u,rfl,sU (s:={ s with heap:=h' }) e c d (by decide) ⟨x,H,J,C,⟨rfl,λys L=>by rw[I.tuple_inj L Y];exact j⟩,U,λb D=>(V b D).1⟩⟩
 done:=by
  intro X hP Z f y i pins s σ H E I V st g;subst hP Z f;obtain⟨xs,Y,j⟩:=g;obtain⟨its,l,p,A⟩:=I.tuple Y;obtain⟨m,n,F,q,r,t⟩:=V it ⋯;have N:=l.length;exact wpAny_pyNext_tuple_end (I.ok.hd y) st (show s.heap.IsTuple a its.toArray from p) (by simp;omega) λh' M=>⟨rfl,I.turned (t':=s.toks) (λb o D e=>M b o D e) m n q r t⟩
 self:=λ_ _ _ _ _ st h=>wpAny_pyIter_tupleiter st h
def pN(it:Addr)(lo:Int)(n:Nat):i_ P w K tg (kO lo n) [it] it (λi h=>IsRangeIter h it (lo+(i:Nat)*1) ((n:Int)-(i:Nat)) 1) where
 mem:=by simp
 obj:=λi h st b D=>by
  have e:b=it:=by simpa using D
  subst e;exact⟨_,st,λv z=>by
   have m:Data.fields _=Data.cell v:=z;cases m⟩
 keep:=λi h h' st k=>k it ⋯ _ st
 item:=by
  intro X hP Y Z a i pins s σ H E I V st c;subst hP Y Z;obtain⟨d,f,p,g,j,l⟩:=V it ⋯;have W:=Walks.range (prog:=X.prog) (w:=X.w) (I.ok.hd a) it lo 1 n;refine W.item i s _ _ c st λv h' tk q U kk=>?_;obtain⟨t,rfl⟩:=q;have r:Inv X pins σ H { s with heap:=h',toks:=tk }:=I.turned (λb o D e=>kk b o (by simpa using D) e) d f g j l;refine⟨_,rfl,sU (s:={ s with heap:=h',toks:=tk }) (n:="range_iterator") U rfl rfl (by decide) ⟨.int (lo+i),H,r,⟨t,?_⟩,⟨rfl,rfl⟩,U,λb D=>(V b D).1⟩⟩;rw[Int.mul_one]
 done:=by
  intro X hP Y Z a i pins s σ H E I V st c;subst hP Y Z;obtain⟨d,f,p,g,j,l⟩:=V it ⋯;exact wpAny_pyNext_range_end (I.ok.hd a) st (by have:n<=i:=c;omega) λh' u=>⟨rfl,I.turned (t':=s.toks) (λb o D e=>u b o D e) d f g j l⟩
 self:=λ_ _ _ _ _ st h=>wpAny_pyIter_rangeiter st h
def IM(K:kf)(tl:TE):TI:=λσ H R=>tl σ H λx H1=>∃a,x=.ref a/\(∃xs,dI K H1 a xs)/\R (xX K a) H1
def xZ(K:kf)(tl:TE):TI:=λσ H R=>tl σ H λx H1=>∃a,x=.ref a/\(∃xs,eX K H1 a xs)/\R (xY K a) H1
variable{l:Expr}{tl:TE}
def CW(V:PE X l tl):PI X tg l (IM X.K tl):=by
 intro pins s σ H R I h;refine bI (V pins s σ H _ I h) λv D Y=>?_;obtain⟨x,H1,U,Z,c⟩:=Y;obtain⟨a,e,⟨xs,d⟩,q⟩:=c;subst e;cases Z;obtain⟨its,g,p,i⟩:=U.list d;refine lw p.isList ?_;refine⟨D.heap.objs.size,[D.heap.objs.size],_,_,H1,rfl,U.kept (t':=D.toks) λb o e=>au _ e,IK a _,⟨_,db _ rfl,rfl,rfl⟩,λb f=>?_,q⟩;have e:b=D.heap.objs.size:=by simpa using f
 subst e;exact U.fpOk (b9 _) (U.hok.fresh (b9 _))
def IN(V:PE X l tl):PI X tg l (xZ X.K tl):=by
 intro pins s σ H R I h;refine bI (V pins s σ H _ I h) λv D Y=>?_;obtain⟨x,H1,U,Z,c⟩:=Y;obtain⟨a,e,⟨xs,d⟩,q⟩:=c;subst e;cases Z;obtain⟨its,g,p,i⟩:=U.tuple d;refine wpAny_pyIter_tuple (show D.heap.IsTuple a its.toArray from p) ?_;refine⟨D.heap.objs.size,[D.heap.objs.size],_,_,H1,rfl,U.kept (t':=D.toks) λb o e=>au _ e,IL a _,⟨_,db _ rfl,rfl,rfl⟩,λb f=>?_,q⟩;have e:b=D.heap.objs.size:=by simpa using f
 subst e;exact U.fpOk (b9 _) (U.hok.fresh (b9 _))
variable{v:Value}{Cm:Cx->Prop}
def CY(hT:∀(it:Addr) (lo:Int) (n:Nat),lM Cm X.prog X.w X.K tg (kO lo n) [it] it (λi h=>IsRangeIter h it (lo+(i:Nat)*1) ((n:Int)-(i:Nat)) 1)){R:It->Hp->Prop}{lo hi:Int}{t u v:Tok}{tk:Nat}(I:Inv X pins σ H s)(h1:-(2 ^ 62)<=lo)(h2:lo<2 ^ 62)(U:-(2 ^ 62)<=hi)(V:hi<2 ^ 62)(q:R (kO lo (hi-lo).toNat) H):wpAny (model X.prog X.w) X.A (pyIter (.ref s.heap.objs.size)) (pM Cm X pins σ tg R) E { s with heap:=s.heap.push { cls:=.type "range",data:=.fields #[.int lo t,.int hi u,.int 1 v] },toks:=tk }:=by
 refine wpAny_pyIter_range (IsRange.new ..) (small_one h1 h2 U V) ?_;have D:Inv X pins σ H { s with heap:=s.heap.push { cls:=.type "range",data:=.fields #[.int lo t,.int hi u,.int 1 v] },toks:=tk }:=I.kept λb o e=>au _ e;refine⟨(s.heap.push { cls:=.type "range",data:=.fields #[.int lo t,.int hi u,.int 1 v] }).objs.size,[(s.heap.push { cls:=.type "range",data:=.fields #[.int lo t,.int hi u,.int 1 v] }).objs.size],_,_,H,rfl,
  D.kept (t':=tk) λb o e=>au _ e,hT _ lo (hi-lo).toNat,?_,λb Y=>?_,q⟩
 ·have Z:lo+((0:Nat):Int)*1=lo:=by simp
  have a:(((hi-lo).toNat:Nat):Int)-((0:Nat):Int)=Builtin.Range.rangeSize lo hi 1:=by rw[rangeSize_one];split <;> omega
  show IsRangeIter _ _ (lo+((0:Nat):Int)*1) ((((hi-lo).toNat:Nat):Int)-((0:Nat):Int)) 1;rw[Z,a];exact db _ rfl
 ·have e:b=(s.heap.push { cls:=.type "range",data:=.fields #[.int lo t,.int hi u,.int 1 v] }).objs.size:=by simpa using Y
  subst e;exact D.fpOk (b9 _) (D.hok.fresh (b9 _))
def IP(ta:TA):TI:=λσ H R=>ta σ H λvs H1=>∃j:Int,vs=[↥j]/\-(2 ^ 62)<=j/\j<2 ^ 62/\R (kO 0 j.toNat) H1
def IQ(ta:TA):TI:=λσ H R=>ta σ H λvs H1=>∃i j:Int,vs=[↥i,↥j]/\(-(2 ^ 62)<=i/\i<2 ^ 62/\-(2 ^ 62)<=j/\j<2 ^ 62)/\R (kO i (j-i).toNat) H1
variable{p:Pos}
def IR(hT:∀(it:Addr) (lo:Int) (n:Nat),lM Cm X.prog X.w X.K tg (kO lo n) [it] it (λi h=>IsRangeIter h it (lo+(i:Nat)*1) ((n:Int)-(i:Nat)) 1)){ta:TA}(U:Gl X "range")(V:X.mg "range" = none)(Y:PA X [a] ta)(Z:‹starEach [a] X.env=[(false,eval a X.env)]›):kN Cm X tg (.Call (.Name "range" p) [a] [] pos) (IP ta):=by
 intro pins s σ H R I h;refine Call_ (y8 I U V boot_range (i5 (bI (Y pos pins s σ H _ I h) λus g b=>?_) Z rfl));obtain⟨vs,H1,c,d,D⟩:=b;obtain⟨j,e,D,f,q⟩:=D;subst e;cases d with
 |cons r rr =>
   cases rr;obtain⟨t,rfl⟩:=r;exact call_range_1 (CY hT c (by omega) (by omega) D f (by simpa using q))
def IS{ta:TA}(V:Gl X "range")(Y:X.mg "range" = none)(Z:PA X [a,b] ta)(c:‹starEach [a,b] X.env=[(false,eval a X.env),(false,eval b X.env)]›)(D:‹starEach [b] X.env=[(false,eval b X.env)]›) :
  PI X tg (.Call (.Name "range" p) [a,b] [] pos) (IQ ta):=by
 intro pins s σ H R I h;refine Call_ (y8 I V Y boot_range (i5 (bI (Z pos pins s σ H _ I h) λus o d=>?_) (by rw[c,D]) (by rw[D];rfl)));obtain⟨vs,H1,f,g,U⟩:=d;obtain⟨i,j,e,⟨U,k,l,m⟩,q⟩:=U;subst e;cases g with
 |cons r rr =>
   cases rr with
   |cons r' rr =>
     cases rr;obtain⟨t,rfl⟩:=r;obtain⟨t',rfl⟩:=r';exact call_range_2 (CY (λit lo n=>pN it lo n) f U k l m q)
def x_(wi:TI)(g:TG)(tb:TS):TS:=λD σ H=>wi σ H λJ H1=>∃W:Nat->Nat->St->Hp->Prop,(∃m,W 0 m σ H1)/\∀i m σ H,W i m σ H ->
 (J.stop i H/\D.nx σ H)\/(J.go i H/\∃N:St->Hp->Prop,(∀I H',N I H'->∃V,V<m/\W (i+1) V I H')/\∀x H',J.yld i H x H'->g x σ H' λU H2=>tb { D with nx:=N,ct:=N,bk:=D.nx } U H2)
def pO(fp:ia)(h:Heap):kv:=fp.filterMap λb=>(h.get? b).map λo=>(b,o)
variable{fp:ia}
def sV{b:Addr}(D:b∈fp)(e:h.get? b=↑o):(b,o)∈pO fp h:=tm.mpr ⟨b,D,by rw[e];rfl⟩
def IT{p:Addr×Obj}(D:p∈pO fp h):p.1∈fp/\h.get? p.1=↑p.2:=by
 obtain⟨b,I,e⟩:=tm.mp D;cases q:h.get? b with
 |none=>rw[q] at e;cases e
 |some o =>
   rw[q] at e;have e':(b,o)=p:=cg e;subst e';exact⟨I,q⟩
def Inv.pinned(I:Inv X pins σ H s)(U:∀b∈fp,d_ X pins H b)(V:∀b∈fp,∃o,s.heap.get? b=↑o/\∀v,o.data≠.cell v):Inv X (pins++pO fp s.heap) σ H s :=
 I.pins_of λp Y=>(dy.mp Y).elim (λz=>I.pin p (cw _ z)) λz=>by
  obtain⟨D,e⟩:=IT z;obtain⟨Z,a,c,_⟩:=U p.1 D;obtain⟨o,e',d⟩:=V p.1 D;rw[e] at e';cases e';exact⟨e,Z,a,c,d⟩
variable{pl:Sem Bool}
def Inv.unpinned{pl:kv}(I:Inv X (pins++pl) σ H s):Inv X pins σ H s:=I.pins_of λp D=>I.pin p (cw _ (fq _ D))
theorem IU{iter:Expr}{wi:TI}{tb:TS}(p:PassesOwn (model X.prog X.w) X.A X.env X.xe)(G:X.calm=true)(hi:PI X tg iter wi)(Q:PG X tg g)(V:hU X body tb)(R:∀x,foldedSetIterable iter X.env x=pure x:=by intro _;rfl):PS X (.For tg iter body [] pos) (x_ wi g tb):=by
 intro pins s σ H D I h;refine wpAny_For (bI (hi pins s σ H _ I h) λv s1 h1=>bI h1 λS s2 h2=>?_) R;obtain⟨it,fp,K,J,H2,e,I2,T,y,L,W,⟨m0,w0⟩,turn⟩:=h2;subst e;have Y:∀ {H':Hp},(∀b∈fp,H' b=none)->∀b∈fp,d_ X pins H' b:=λhn b V=>⟨hn b V,(L b V).2⟩;refine codeAny_forLoop_any (λn s'=>∃i Z H',Inv X pins Z H' s'/\K i s'.heap/\(∀b∈fp,H' b=none)/\W i n Z H') ?_ m0 ⟨0,σ,H2,I2,y,λb V=>(L b V).1,w0⟩;rintro n M ⟨i,σ3,H3,I3,st3,fr3,w3⟩;rcases turn i n σ3 H3 w3 with⟨q,qn⟩ | ⟨go,N,hN,step⟩
 ·refine j9 p (bI (T.done X rfl rfl rfl G i pins M σ3 H3 X.xe I3 (Y fr3) st3 q) λr s4 k=>?_)
  obtain⟨z,I4⟩:=k;subst z;exact m4 ⟨σ3,H3,I4,qn⟩
 ·refine j9 p (bI (T.item X rfl rfl rfl G i pins M σ3 H3 X.xe I3 (Y fr3) st3 go) λr s4 k=>?_)
  obtain⟨u,z,h4⟩:=k;subst z;refine j9 p (bI h4 λ_ O k=>?_);obtain⟨x,P,I5,r5,y5,l,B⟩:=k;have C:=I5.pinned (Y B) (T.obj _ _ l);refine j9 p (bI (Q _ O σ3 P x u _ C r5 (step x P y5)) λ_ s6 k=>?_);obtain⟨E,H6,I6,q6⟩:=k;refine j9 p (bI (V _ s6 E H6 _ I6 q6) λf F j=>?_);have again:∀ {U:St} {a:Hp},Inv X (pins++pO fp O.heap) U a F->N U a->∃m,m<n/\∃i Z H',Inv X pins Z H' F/\K i F.heap/\(∀b∈fp,H' b=none)/\W i m Z H':=λ{U a} c t=>by
   obtain⟨m',hm,w7⟩:=hN U a t;refine⟨m',hm,i+1,U,a,c.unpinned,T.keep _ _ _ l λb V o e=>(c.pin (b,o) (cw _ (cw _ (sV V e)))).1,λb V=>?_,w7⟩;obtain⟨o,e,d⟩:=T.obj _ _ l b V;exact(c.pin (b,o) (cw _ (cw _ (sV V e)))).2.1
  cases f with
  |next=>obtain⟨U,a,c,t⟩:=j;exact again c t |cont=>obtain⟨U,a,c,t⟩:=j;exact again c t |brk=>obtain⟨U,a,c,j⟩:=j;exact⟨U,a,c.unpinned,j⟩ |ret v=>obtain⟨x7,U,a,c,r7,j⟩:=j;exact⟨x7,U,a,c.unpinned,r7,j⟩
abbrev R2:=V->V->Hp->VK->Prop
def gA(X:Cx)(f:Value->Value->Sem Value)(r:R2):Prop :=
 ∀(pins:kv) (s:Shared) (σ:St) (H:Hp) (x y:V) (v u:Value) (Q:VK),Inv X pins σ H s->RelV x v->RelV y u->r x y H Q ->
  wpAny (model X.prog X.w) X.A (f v u) (EP X pins σ Q) X.xe s
def y3(X:Cx)(f:Value->Sem Value)(r:V->Hp->VK->Prop):Prop :=
 ∀(pins:kv) (s:Shared) (σ:St) (H:Hp) (x:V) (v:Value) (Q:VK),Inv X pins σ H s->RelV x v->r x H Q ->
  wpAny (model X.prog X.w) X.A (f v) (EP X pins σ Q) X.xe s
def t9(X:Cx)(f:Value)(r:k6->Hp->VK->Prop):Prop :=
 ∀(pins:kv) (s:Shared) (σ:St) (H:Hp) (xs:k6) (us:h7) (Q:VK),Inv X pins σ H s->aP xs us->r xs H Q ->
  wpAny (model X.prog X.w) X.A (call f us) (EP X pins σ Q) X.xe s
def pP(r:R2)(ta tb:TE):TE:=λσ H Q=>ta σ H λx H1=>tb σ H1 λy H2=>r x y H2 Q
def IV(r:V->Hp->VK->Prop)(ta:TE):TE:=λσ H Q=>ta σ H λx H1=>r x H1 Q
def rI(C:Int->Int->Prop)(g:Int->Int->V):R2:=λx y H Q=>∃i j,x=.int i/\y=.int j/\C i j/\Q (g i j) H
def iJ(g:Int->Int->V):R2:=λx y H Q=>∃i j,x=.int i/\y=.int j/\Q (g i j) H
def rU(g:Int->V):V->Hp->VK->Prop:=λx H Q=>∃i,x=.int i/\Q (g i) H
variable{f:Value->Value->Sem Value}
def lN(Y:PE X a ta)(Z:PE X b tb){R:V->V->Hp->Prop}(I:Inv X pins σ H s)(h:ta σ H λx H1=>tb σ H1 λy H2=>R x y H2)(c:∀v u s2 x y H2,Inv X pins σ H2 s2->RelV x v->RelV y u->R x y H2->wpAny (model X.prog X.w) X.A (f v u) Q X.xe s2) :
  wpAny (model X.prog X.w) X.A (eval a X.env) (λv D=>wpAny (model X.prog X.w) X.A (eval b X.env) (λu s₂=>wpAny (model X.prog X.w) X.A (f v u) Q X.xe s₂) X.xe D) X.xe s:=by
 refine bI (Y pins s σ H _ I h) λv d U=>?_;obtain⟨x,H1,e,g,i⟩:=U;refine bI (Z pins d σ H1 _ e i) λu s2 U=>?_;obtain⟨y,H2,j,k,l⟩:=U;exact c v u s2 x y H2 j g k l
variable{r:R2}
def y4(D:gA X (binaryOp op) r)(U:PE X a ta)(V:PE X b tb):PE X (.BinOp a op b pos) (pP r ta tb):=by
 intro pins s σ H Q I h;exact wpAny_BinOp (lN U V I h λv u s2 x y H2 Y Z c q=>D pins s2 σ H2 x y v u Q Y Z c q)
variable{op:CmpOp}
def CZ{op:UnaryOp}{r:V->Hp->VK->Prop}(D:y3 X (unaryOp op) r)(U:PE X a ta):PE X (.UnaryOp op a pos) (IV r ta):=by
 intro pins s σ H Q I h;exact UnaryOp_ (bI (U pins s σ H _ I h) λv s1 ⟨x,H1,I1,r1,q1⟩=>D pins s1 σ H1 x v Q I1 r1 q1)
variable{g:Int->Int->Int}{C:Addr}
def sW{C:Int->Int->Prop}(rule:∀(i j:Int) (t u:Tok) (s:Shared) (Q:Value->Shared->Prop) (E:Value->Shared->Prop),C i j->Q (.int (g i j) s.toks) { s with toks:=s.toks+1 }->wpAny (model X.prog X.w) X.A (f (.int i t) (.int j u)) Q E s) :
  gA X f (rI C λi j=>.int (g i j)):=by
 intro pins s σ H x y v u Q I D U h;obtain⟨i,j,rfl,rfl,V,q⟩:=h;obtain⟨t,rfl⟩:=D;obtain⟨t',rfl⟩:=U;exact rule i j t t' s _ _ V ⟨.int (g i j),H,I.tok _,⟨_,rfl⟩,q⟩
def pQ(rule:∀(i j:Int) (t u:Tok) (s:Shared) (Q:Value->Shared->Prop) (E:Value->Shared->Prop),Q (.int (g i j) s.toks) { s with toks:=s.toks+1 }->wpAny (model X.prog X.w) X.A (f (.int i t) (.int j u)) Q E s) :
  gA X f (iJ λi j=>.int (g i j)):=by
 intro pins s σ H x y v u Q I D U h;obtain⟨i,j,rfl,rfl,q⟩:=h;obtain⟨t,rfl⟩:=D;obtain⟨t',rfl⟩:=U;exact rule i j t t' s _ _ ⟨.int (g i j),H,I.tok _,⟨_,rfl⟩,q⟩
def kP{g:Int->Int->Bool}(rule:∀(i j:Int) (t u:Tok) (s:Shared) (Q:Value->Shared->Prop) (E:Value->Shared->Prop),Q (.bool (g i j)) s->wpAny (model X.prog X.w) X.A (f (.int i t) (.int j u)) Q E s) :
  gA X f (iJ λi j=>.bl (g i j)):=by
 intro pins s σ H x y v u Q I D U h;obtain⟨i,j,rfl,rfl,q⟩:=h;obtain⟨t,rfl⟩:=D;obtain⟨t',rfl⟩:=U;exact rule i j t t' s _ _ ⟨.bl (g i j),H,I,rfl,q⟩
def pR(i j:Int):Prop:=0<j/\j<1073741824
def lO(i j:Int):Prop:=0<=j/\j<=1000000/\i.natAbs<2 ^ 64
def kQ(i j:Int):Prop:=(-(2 ^ 64)<i/\i<2 ^ 64)\/(-(2 ^ 64)<j/\j<2 ^ 64)
def kQ.ok(h:kQ i j):IntMulOk i j:=by
 rcases h with⟨h1,h2⟩ | ⟨h1,h2⟩
 ·exact .of_left (intBits_le_64 h1 h2)
 ·exact .of_right (intBits_le_64 h1 h2)
def IW:gA X (binaryOp .Add) (iJ λi j=>.int (i+j)):=pQ λ_ _ _ _ _ _ _ q=>add_int q
def IX:gA X (binaryOp .Sub) (iJ λi j=>.int (i-j)):=pQ λ_ _ _ _ _ _ _ q=>sub_int q
def IY:gA X (binaryOp .Mult) (rI kQ λi j=>.int (i*j)):=sW λ_ _ _ _ _ _ _ D q=>mul_int q D.ok
def IZ:gA X (binaryOp .FloorDiv) (rI pR λi j=>.int (i / j)):=sW λi j _ _ _ _ _ D q=>by
 have h1:(0:Int)<j:=D.1;have h2:j<1073741824:=D.2;exact floordiv_int (by omega) (by rw[Int.fdiv_eq_ediv_of_nonneg i (by omega)];exact q) (.inl (PyProof.noPylong_small (by omega)))
def I_:gA X (binaryOp .Mod) (rI (λ_ j=>0<j) λi j=>.int (i % j)):=sW λi j _ _ _ _ _ D q=>by
 have h1:(0:Int)<j:=D;exact mod_int' (by omega) (by rw[Int.fmod_eq_emod_of_nonneg i (by omega)];exact q)
def Ja:gA X (binaryOp .Pow) (rI lO λi j=>.int (i ^ j.toNat)):=sW λ_ _ _ _ _ _ _ D q=>pow_int_small D.1 D.2.1 D.2.2 q
variable{f:Addr}
def Jb{f:Value->Sem Value}{g:Int->Int}(rule:∀(i:Int) (t:Tok) (s:Shared) (Q:Value->Shared->Prop) (E:Value->Shared->Prop),Q (.int (g i) s.toks) { s with toks:=s.toks+1 }->wpAny (model X.prog X.w) X.A (f (.int i t)) Q E s) :
  y3 X f (rU λi=>.int (g i)):=by
 intro pins s σ H x v Q I D h;obtain⟨i,rfl,q⟩:=h;obtain⟨t,rfl⟩:=D;exact rule i t s _ _ ⟨.int (g i),H,I.tok _,⟨_,rfl⟩,q⟩
def C_:y3 X (unaryOp .USub) (rU λi=>.int (-i)):=Jb λ_ _ _ _ _ q=>neg_int q
def pS:V->V->Bool
 | .non,.non=>true | .non,.int _=>true | .int _,.non=>true | .non,.bl _=>true | .bl _,.non=>true | .non,.str _=>true | .str _,.non=>true | .int _,.int _=>true | .bl _,.bl _=>true | .str _,.str _=>true | .byt _,.byt _=>true | .int _,.str _=>true | .str _,.int _=>true | .bl _,.str _=>true | .str _,.bl _=>true |_,_=>false
def Da:R2:=λx y H Q=>pS x y=true/\Q (.bl (decide (x=y))) H
def Db:R2:=λx y H Q=>pS x y=true/\Q (.bl (!decide (x=y))) H
def Dc:decide (V.int i=V.int j)=(i==j):=by
 rw[oz];simp
def Dd{i j:Bool}:decide (V.bl i=V.bl j)=(i==j):=by
 rw[oz];simp
def De{i j:Str}:decide (V.str i=V.str j)=(i==j):=by
 rw[oz];simp
def Df{i j:Array UInt8}:decide (V.byt i=V.byt j)=(i.toList==j.toList):=by
 rw[oz];cases i;cases j;simp
def mz{Q:VK}{k k':Bool}(I:Inv X pins σ H s)(q:Q (.bl k) H)(e:k=k'):EP X pins σ Q (.bool k') s:=by
 subst e;exact⟨.bl k,H,I,rfl,q⟩
def Dg:gA X (compareOp .Eq) Da:=by
 intro pins s σ H x y v u Q I V D h;obtain⟨U,q⟩:=h;cases x with
 |non =>
   cases V;cases y with
   |non=>cases D;exact PySem.EqNone.eq_none_none (mz I q ⋯)
   |bl j=>cases D;exact PySem.EqNone.eq_none_bool (mz I q ⋯)
   |int j=>obtain⟨t',rfl⟩:=D;exact PySem.EqNone.eq_none_int (mz I q ⋯) |str j=>obtain⟨t',rfl⟩:=D;exact PySem.EqNone.eq_none_str (mz I q ⋯) |_=>exact absurd (show false=true from U) dq
 |bl i =>
   cases V;cases y with
   |non=>cases D;exact PySem.EqNone.eq_bool_none (mz I q ⋯)
   |bl j=>cases D;exact eq_bool (mz I q Dd)
   |str j=>obtain⟨t',rfl⟩:=D;exact PySem.EqMixed.eq_bool_str (mz I q ⋯) |_=>exact absurd (show false=true from U) dq
 |int i =>
   obtain⟨t,rfl⟩:=V;cases y with
   |non=>cases D;exact PySem.EqNone.eq_int_none (mz I q ⋯)
   |int j=>obtain⟨t',rfl⟩:=D;exact eq_int (mz I q Dc) |str j=>obtain⟨t',rfl⟩:=D;exact PySem.EqMixed.eq_int_str (mz I q ⋯) |_=>exact absurd (show false=true from U) dq
 |str i =>
   obtain⟨t,rfl⟩:=V;cases y with
   |non=>cases D;exact PySem.EqNone.eq_str_none (mz I q ⋯)
   |bl j=>cases D;exact PySem.EqMixed.eq_str_bool (mz I q ⋯)
   |int j=>obtain⟨t',rfl⟩:=D;exact PySem.EqMixed.eq_str_int (mz I q ⋯) |str j=>obtain⟨t',rfl⟩:=D;exact eq_str (mz I q De) |_=>exact absurd (show false=true from U) dq
 |byt i =>
   obtain⟨t,rfl⟩:=V;cases y with
   |byt j=>obtain⟨t',rfl⟩:=D;exact PySem.W.eq_bytes (mz I q Df) |_=>exact absurd (show false=true from U) dq
 |_=>cases y <;> exact absurd (show false=true from U) dq
def Jc:gA X (compareOp .NotEq) Db:=by
 intro pins s σ H x y v u Q I V D h;obtain⟨U,q⟩:=h;cases x with
 |non =>
   cases V;cases y with
   |non=>cases D;exact PySem.EqNone.ne_none_none (mz I q ⋯)
   |bl j=>cases D;exact PySem.EqNone.ne_none_bool (mz I q ⋯)
   |int j=>obtain⟨t',rfl⟩:=D;exact PySem.EqNone.ne_none_int (mz I q ⋯) |str j=>obtain⟨t',rfl⟩:=D;exact PySem.EqNone.ne_none_str (mz I q ⋯) |_=>exact absurd (show false=true from U) dq
 |bl i =>
   cases V;cases y with
   |non=>cases D;exact PySem.EqNone.ne_bool_none (mz I q ⋯)
   |bl j=>cases D;exact ne_bool (mz I q (congrArg not Dd))
   |str j=>obtain⟨t',rfl⟩:=D;exact PySem.EqMixed.ne_bool_str (mz I q ⋯) |_=>exact absurd (show false=true from U) dq
 |int i =>
   obtain⟨t,rfl⟩:=V;cases y with
   |non=>cases D;exact PySem.EqNone.ne_int_none (mz I q ⋯)
   |int j=>obtain⟨t',rfl⟩:=D;exact ne_int (mz I q (congrArg not Dc)) |str j=>obtain⟨t',rfl⟩:=D;exact PySem.EqMixed.ne_int_str (mz I q ⋯) |_=>exact absurd (show false=true from U) dq
 |str i =>
   obtain⟨t,rfl⟩:=V;cases y with
   |non=>cases D;exact PySem.EqNone.ne_str_none (mz I q ⋯)
   |bl j=>cases D;exact PySem.EqMixed.ne_str_bool (mz I q ⋯)
   |int j=>obtain⟨t',rfl⟩:=D;exact PySem.EqMixed.ne_str_int (mz I q ⋯) |str j=>obtain⟨t',rfl⟩:=D;exact ne_str (mz I q (congrArg not De)) |_=>exact absurd (show false=true from U) dq
 |byt i =>
   obtain⟨t,rfl⟩:=V;cases y with
   |byt j=>obtain⟨t',rfl⟩:=D;exact PySem.W.ne_bytes (mz I q (congrArg not Df)) |_=>exact absurd (show false=true from U) dq
 |_=>cases y <;> exact absurd (show false=true from U) dq
def Jd:gA X (compareOp .Lt) (iJ λi j=>.bl (decide (i<j))):=kP λ_ _ _ _ _ _ _ q=>lt_int q
def Je:gA X (compareOp .LtE) (iJ λi j=>.bl (decide (i<=j))):=kP λ_ _ _ _ _ _ _ q=>le_int q
def Dh:gA X (compareOp .Gt) (iJ λi j=>.bl (decide (j<i))):=kP λ_ _ _ _ _ _ _ q=>gt_int q
def Di:gA X (compareOp .GtE) (iJ λi j=>.bl (decide (j<=i))):=kP λ_ _ _ _ _ _ _ q=>ge_int q
def x6(b:Expr)(h:op≠.In:=by decide)(h2:op≠.NotIn:=by decide):behindInMarks op b=false:=by
 have D:(op==CmpOp.In)=false:=by cases op <;> first |rfl |exact absurd rfl h
 have I:(op==CmpOp.NotIn)=false:=by cases op <;> first |rfl |exact absurd rfl h2
 cases b <;> simp[behindInMarks,D,I]
def Jf(D:gA X (compareOp op) r)(U:PE X a ta)(V:PE X b tb)(Y:behindInMarks op b=false):PE X (.Compare a [op] [b] pos) (pP r ta tb):=by
 intro pins s σ H Q I h;exact wpAny_Compare1 (lN U V I h λv u s2 x y H2 Z c d q=>D pins s2 σ H2 x y v u Q Z c d q) Y
def Dj(t:TE):TT:=λσ H Q=>t σ H λx H'=>∃k,x=.bl k/\Q k H'
def Jg(D:gA X (compareOp op) r)(U:PE X a ta)(V:PE X b tb)(Y:behindInMarks op b=false):PT X (.Compare a [op] [b] pos) (Dj (pP r ta tb)):=by
 intro pins s σ H Q I h;refine wpAny_isTrue_Compare1 (bI (U pins s σ H _ I h) λv s1 ⟨x,H1,I1,r1,q1⟩=>bI (V pins s1 σ H1 _ I1 q1) λu s2 ⟨y,H2,I2,r2,q2⟩ =>
  bI (D pins s2 σ H2 x y v u _ I2 r1 r2 q2) λc s3 ⟨z,H3,I3,r3,k,e,q3⟩=>?_) Y
 subst e;cases r3;exact oo ⟨H3,I3,q3⟩
def nF:(sizeLine:Nat)<2 ^ 63:=by rw[i4];decide
variable{x:V}
def yx(r:aP [x] us):∃u,us=[u]/\RelV x u:=by
 cases r with
 |cons r1 r2=>cases r2;exact⟨_,rfl,r1⟩
variable{y:V}
def sX(r:aP [x,y] us):∃u D,us=[u,D]/\RelV x u/\RelV y D:=by
 cases r with
 |cons r1 r2 =>
   cases r2 with
   |cons r3 r4=>cases r4;exact⟨_,_,rfl,r1,r3⟩
def Jh(U:X.calm=true):t9 X (.builtin "max") (λxs H Q=>∃i j,xs=[↥i,↥j]/\Q ↥(if j > i then j else i) H):=by
 intro pins s σ H xs us Q I r h;obtain⟨i,j,rfl,q⟩:=h;obtain⟨u,V,rfl,⟨t,rfl⟩,⟨t',rfl⟩⟩:=sX r;refine max_two_ints (I.ok.hd U) λh' tk k=>⟨_,H,I.kept k,?_,q⟩;by_cases D:j > i
 ·rw[aq D,aq D];exact⟨_,rfl⟩
 ·rw[b7 D,b7 D];exact⟨_,rfl⟩
def Ji:t9 X (.type "int") (λxs H Q=>(∃i,xs=[↥i]/\Q ↥i H)\/∃k,xs=[.bl k]/\Q ↥(if k then 1 else 0) H):=by
 intro pins s σ H xs us Q I r h;rcases h with⟨i,rfl,q⟩ | ⟨k,rfl,q⟩
 ·obtain⟨u,rfl,t,rfl⟩:=yx r
  exact call_int_int ⟨.int i,H,I,⟨_,rfl⟩,q⟩
 ·obtain⟨u,rfl,D⟩:=yx r
  cases D;exact call_int_bool ⟨.int (if k then 1 else 0),H,I.tok _,⟨_,rfl⟩,q⟩
structure iN (h:Heap) (x dx C:Addr) (mA:Str->h8):Prop where
 obj:h.get? x=↑(PySem.W.instObj C dx)
 ns:h.Ns1 dx mA
 ne:dx≠x
variable{dx:Addr}{mA:Str->h8}
def Jj(n:h.Ns1 dx mA):∃od,h.get? dx=↑od/\∀name,PySem.W.lookIn name od=↑(mA name):=by
 obtain⟨o,es,b,I,hd,U,_,V⟩:=n;refine⟨o,I,λname=>?_⟩;have e:=V name;unfold nsFind findBy at e;rw[<-Array.find?_toList] at e;unfold PySem.W.lookIn;rw[hd];dsimp only;split
 ·rename_i y q
  rw[q] at e;exact congrArg some e
 ·rename_i q
  rw[q] at e;have a:es.toList.any (·.refKey)=false:=by
   rw[List.any_eq_false];intro y Y;obtain⟨z,t,D⟩:=U y (Array.mem_toList_iff.mp Y);simp[DictEntry.refKey,D]
  have Z:¬es.toList.any (·.refKey)=true:=by rw[a];exact dq
  rw[b7 Z];exact congrArg some e
variable{x:Addr}
def iN.look(I:iN h x dx C mA):∃od,PySem.W.InstAt h x (PySem.W.instObj C dx) C ↑od/\∀name,PySem.W.lookIn name od=↑(mA name) :=
 let ⟨od,D,U⟩:=Jj I.ns
 ⟨od,⟨I.obj,rfl,rfl,D⟩,U⟩
variable{prog:Program}{name:Str}
def Jk{D:Bool}(X:K.In s.heap)(I:iN s.heap x dx C mA)(V:PySem.W.plainGet K C name=true)(Y:PySem.W.hasDictIn K C=true)(Z:PySem.W.findIn K (.ref C) name=↑none)(a:mA name=↑v)(U:PySem.W.handedIn v=true)(h:Q v { s with toks:=s.toks+1 }) :
  wpAny (model prog w) A (getAttr (.ref x) name D) Q E s:=by
 obtain⟨od,J,b⟩:=I.look;exact PySem.W.get_value X J (qx V).1 (PySem.W.findObj_own Y Z rfl (by rw[b,a])) U h
def Jl{Q:Value×h7->Shared->Prop}(X:K.In s.heap)(I:iN s.heap x dx C mA)(D:PySem.W.plainGet K C name=true)(U:PySem.W.findIn K (.ref C) name=↑↑(.ref f))(V:PySem.W.isFn K (.ref f)=true)(Y:mA name=none)(h:Q (.ref f,[.ref x]) s) :
  wpAny (model prog w) A (getMethod (.ref x) name pl) Q E s:=by
 obtain⟨od,J,Z⟩:=I.look;exact PySem.W.method_fn X J (qx D).1 (qx D).2 U (mw.mp V) (by show(PySem.W.lookIn name od).map (·.isSome)=↑false;rw[Z,Y];rfl) h
def Jm{d:h6}{Q:Unit->Shared->Prop}(X:K.In s.heap)(I:iN s.heap x dx C mA)(e:PySem.W.findIn K (.ref C) "__setattr__" = ↑↑(.builtin "object.__setattr__"))(f:PySem.W.plainOver K C=true)(g:PySem.W.takerIn K C name=↑none)(i:PySem.W.hasDictIn K C=true)(j:PySem.Within mA d)(k:d.length<=sizeLine)(h:∀h',iN h' x dx C (λy=>if y=name then ↑v else mA y)->Heap.SameBut dx s.heap h'->Q () { s with heap:=h',toks:=s.toks+2 }) :
  wpAny (model prog w) A (setAttr (.ref x) name v) Q E s:=by
 obtain⟨od,J,p⟩:=I.look;refine PySem.W.set_plain X J e (PySem.W.osa_open (s:={ s with toks:=s.toks+1 }) (r:=none) X J f g λb=>?_);obtain⟨cd,l,V⟩:=PySem.W.any_some i;have m:s.heap.get? x=↑⟨.ref C,↑dx,.plain,#[]⟩:=I.obj;refine ax (dg (ax (ax (wpAny_loadPart m (ax (PySem.W.Looks.here (s:={ s with toks:=s.toks+1 }) (PySem.W.looks_clsIn X l) ?_))))));rw[V];refine dg (a:=↑dx) (ax (dg (ax ?_)));refine wpAny_nsSet1 (s:={ s with toks:=s.toks+1 }) I.ns λh' D U=>?_;obtain⟨q,n,o,Y,Z,c⟩:=D.count (PySem.Within.cons name v j);refine ax (wpAny_lookBehind Y (by rw[Z];exact pastItsLine_dict (d7 c (by rw[ao];omega))) ?_);exact dg (h _ ⟨(U.2 _ (Ne.symm I.ne)).trans I.obj,D,I.ne⟩ U)
variable{kw:List (Str×Value)}
def Jn{R:Result->Shared->Prop}{vs:h7}(X:K.In s.heap)(I:PySem.W.makesIn K C=true)(hi:PySem.W.findIn K (.ref C) "__init__" = ↑↑(.ref f))(U:PySem.W.typeIn K (.ref f)=↑(.type "function"))(h:codeAny (model prog w) (A.under (.builtin "type.__call__" ⟨.ref C::vs,kw⟩)) (.call (.ref f) ⟨.ref (s.heap.objs.size+1)::vs,kw⟩) (PySem.W.InitBack (s.heap.objs.size+1) R)
   { s with heap:=(s.heap.push PySem.W.emptyDict).push (PySem.W.instObj C s.heap.objs.size) }) :
  codeAny (model prog w) A (.call (.ref C) ⟨vs,kw⟩) R s:=by
 obtain⟨V,g,d,t,os⟩:=s;exact PySem.W.make_core (PySem.W.makes_of X I) (PySem.W.looks_findIn X hi) (λD=>PySem.W.bind_fn X D U) (.inl rfl) h
def eD(f:Str)(v:V):List (Str×V)->List (Str×V)
 | []=>[(f,v)] | (g,x)::r=>if g=f then(g,v)::r else(g,x)::eD f v r
def Dk(f g:Str)(v:V):∀fs:List (Str×V),(eD f v fs).lookup g=if g=f then ↑v else fs.lookup g
 | []=>by
   show List.lookup g [(f,v)]=_;by_cases h:g=f
   ·have D:(g==f)=true:=mw.mpr h
    simp only[List.lookup,D,aq h]
   ·have D:(g==f)=false:=beq_eq_false_iff_ne.mpr h
    simp only[List.lookup,D,b7 h]
 | (k,x)::r=>by
   have U:=Dk f g v r;rw[show eD f v ((k,x)::r)=(if k=f then(k,v)::r else(k,x)::eD f v r) from rfl];by_cases I:k=f
   ·rw[aq I]
    by_cases h:g=k
    ·have D:(g==k)=true:=mw.mpr h
     simp only[List.lookup,D,aq (h.trans I)]
    ·have D:(g==k)=false:=beq_eq_false_iff_ne.mpr h
     simp only[List.lookup,D,b7 (λe:g=f=>h (e.trans I.symm))]
   ·rw[b7 I]
    by_cases h:g=k
    ·have D:(g==k)=true:=mw.mpr h
     simp only[List.lookup,D,b7 (λe:g=f=>I (h.symm.trans e))]
    ·have D:(g==k)=false:=beq_eq_false_iff_ne.mpr h
     simp only[List.lookup,D];exact U
def yA(f:Str)(v:V):∀fs:List (Str×V),f∈(eD f v fs).map (·.1)/\∀g,g∈fs.map (·.1)->g∈(eD f v fs).map (·.1)
 | []=>⟨by simp[eD],λg h=>by simp at h⟩ | (k,x)::r=>by
   obtain⟨I,U⟩:=yA f v r;rw[show eD f v ((k,x)::r)=(if k=f then(k,v)::r else(k,x)::eD f v r) from rfl];by_cases D:k=f
   ·rw[aq D]
    subst D;exact⟨by simp,λg h=>by simpa using h⟩
   ·rw[b7 D]
    refine⟨?_,λg h=>?_⟩
    ·rw[bq]
     exact ay _ I
    ·rw[bq] at h ⊢
     rcases cr.mp h with e |e
     ·exact cr.mpr (.inl e)
     ·exact ay _ (U g e)
def Dl(f:Str)(v:V):∀fs:List (Str×V),(eD f v fs).length<=fs.length+1
 | []=>by simp[eD] | (k,x)::r=>by
   have I:=Dl f v r;rw[show eD f v ((k,x)::r)=(if k=f then(k,v)::r else(k,x)::eD f v r) from rfl];by_cases D:k=f
   ·rw[aq D,ao,ao];omega
   ·rw[b7 D,ao,ao];omega
variable{o:h8}{v:V}
def eO.some_of(r:eO ↑v o):∃u,o=↑u/\RelV v u:=by
 cases o with
 |none=>exact(show False from r).elim |some u=>exact⟨u,rfl,r⟩
def eO.none_of(r:eO none o):o=none:=by
 cases o with
 |none=>rfl |some u=>exact(show False from r).elim
def Jo(r:RelV v u):PySem.W.handedIn u=true:=by
 cases v with
 |non=>cases (show u=Value.none from r);rfl
 |bl b=>cases (show u=Value.bool b from r);rfl
 |int i=>obtain⟨t,e⟩:=(show ∃t,u=Value.int i t from r);cases e;rfl
 |str x=>obtain⟨t,e⟩:=(show ∃t,u=Value.str x t from r);cases e;rfl
 |byt b=>obtain⟨t,e⟩:=(show ∃t,u=Value.bytes b t from r);cases e;rfl
 |flt b=>obtain⟨t,e⟩:=(show ∃t,u=Value.float b t from r);cases e;rfl
 |ref a=>cases (show u=Value.ref a from r);rfl
 |ty n=>cases (show u=Value.type n from r);rfl
variable{a:Addr}{fs:List (Str×V)}
def sY(D:e_ P w H h)(e:H a=↑(.ins C dx fs)):∃mA,iN h a dx C mA/\(∀f,eO (fs.lookup f) (mA f))/\PySem.Within mA (fs.map (·.1))/\fs.length<=1000/\H dx=↑(.own a):=by
 obtain⟨d,z,I,U,mA,n,r,q⟩:=(show bP P w H h a (.ins C dx fs) from D a _ e);exact⟨mA,⟨U,n,I⟩,r,q,z,d⟩
structure iO (K:kf) (C:Addr):Prop where
 pg:PySem.W.plainGet K C Str.empty=true
 hd:PySem.W.hasDictIn K C=true
 po:PySem.W.plainOver K C=true
 sa:PySem.W.findIn K (.ref C) "__setattr__" = ↑↑(.builtin "object.__setattr__")
def iO.get(c:iO K C)(f:Str):PySem.W.plainGet K C f=true:=c.pg
def fA(K:kf)(C:Addr)(f:Str):Prop:=PySem.W.findIn K (.ref C) f=↑none
variable{f:Str}
def fA.taker(n:fA K C f):PySem.W.takerIn K C f=↑none:=by
 unfold PySem.W.takerIn;rw[show PySem.W.findIn K (.ref C) f=↑none from n];rfl
structure PP (K:kf) (C:Addr) (f:Str) (v:V) (u:Value):Prop where
 at_:PySem.W.findIn K (.ref C) f=↑↑u
 rel:RelV v u
 get:PySem.W.specialIn K u "__get__" = ↑none
 cp:PySem.W.copiedNames.contains f=false
structure jR (K:kf) (C:Addr) (m:Str) (f:Addr):Prop where
 at_:PySem.W.findIn K (.ref C) m=↑↑(.ref f)
 fn:PySem.W.isFn K (.ref f)=true
 kp:PySem.W.keepIn K (.ref f)=true
variable{b:Bool}
def Jp(I:Inv X pins σ H s)(e:H a=↑(.ins C dx fs))(c:iO X.K C)(n:fA X.K C f)(l:fs.lookup f=↑v)(h:∀u s',Inv X pins σ H s'->RelV v u->Q u s'):wpAny (model X.prog X.w) A (getAttr (.ref a) f b) Q E s:=by
 obtain⟨mA,O,r,_,_,_⟩:=sY I.hok e;obtain⟨u,U,D⟩:=eO.some_of (v:=v) (o:=mA f) (by rw[<-l];exact r f);exact Jk I.kIn O (c.get f) c.hd n U (Jo D) (h u _ (I.tok _) D)
def Dm{m:Str}{g:Addr}{Q:Value×h7->Shared->Prop}(I:Inv X pins σ H s)(e:H a=↑(.ins C dx fs))(c:iO X.K C)(k:jR X.K C m g)(l:fs.lookup m=none)(h:Q (.ref g,[.ref a]) s):wpAny (model X.prog X.w) A (getMethod (.ref a) m pl) Q E s:=by
 obtain⟨mA,O,r,_,_,_⟩:=sY I.hok e;have D:mA m=none:=eO.none_of (by rw[<-l];exact r m);exact Jl I.kIn O (c.get m) k.at_ k.fn D h
def Jq{Q:Unit->Shared->Prop}(I:Inv X pins σ H s)(e:H a=↑(.ins C dx fs))(c:iO X.K C)(n:fA X.K C f)(i:fs.length<1000)(U:RelV y u)(h:∀s',Inv X pins σ (aV H a (.ins C dx (eD f y fs))) s'->Q () s'):wpAny (model X.prog X.w) A (setAttr (.ref a) f u) Q E s:=by
 obtain⟨mA,O,r,wi,_,D⟩:=sY I.hok e;have V:(fs.map (·.1)).length<=sizeLine:=by rw[ah,i4];omega
 refine Jm I.kIn O c.sa c.po n.taker c.hd wi V λh' O' Y=>h _ ?_;have hd:∃o,h'.get? dx=↑o:=let ⟨o,_,_,e',_⟩:=O'.ns;⟨o,e'⟩;refine I.write (x:=a) (e:=dx) (by rw[e];exact True.intro) (.inr D) (λb q Z z=>(Y.2 b Z).trans z) hd ?_;refine⟨by rw[jo O.ne];exact D,?_,O.ne,O'.obj,_,O'.ns,λg=>?_,λg d=>?_⟩
 ·have:=Dl f y fs;omega
 ·show eO ((eD f y fs).lookup g) (if g=f then ↑u else mA g)
  rw[Dk];by_cases q:g=f
  ·rw[aq q,aq q];exact U
  ·rw[b7 q,b7 q];exact r g
 ·by_cases q:g=f
  ·rw[q];exact(yA f y fs).1
  ·refine(yA f y fs).2 g (wi g λz=>d ?_)
   show(if g=f then ↑u else mA g)=none;rw[b7 q];exact z
def Inv.made(I:Inv X pins σ H s):Inv X pins σ (aV (aV H s.heap.objs.size (.own (s.heap.objs.size+1))) (s.heap.objs.size+1) (.ins C s.heap.objs.size []))
  { s with heap:=(s.heap.push PySem.W.emptyDict).push (PySem.W.instObj C s.heap.objs.size) }:=by
 have D:(s.heap.push PySem.W.emptyDict).get? s.heap.objs.size=↑PySem.W.emptyDict:=db s.heap rfl;have V:((s.heap.push PySem.W.emptyDict).push (PySem.W.instObj C s.heap.objs.size)).get? (s.heap.objs.size+1)=↑(PySem.W.instObj C s.heap.objs.size):=by
  have:=db (s.heap.push PySem.W.emptyDict) (o:=PySem.W.instObj C s.heap.objs.size) rfl;rwa [j3] at this
 have Y:(s.heap.push PySem.W.emptyDict).Ns s.heap.objs.size (λ_=>none):=⟨PySem.W.emptyDict,#[],_,D,rfl,(λe Z=>absurd Z ⋯),λ_=>rfl⟩;have c:=I.laid (a:=s.heap.objs.size) (o:=.own (s.heap.objs.size+1)) (h':=s.heap.push PySem.W.emptyDict) (t':=s.toks) (λb u q=>au _ q) (b9 _) ⟨_,D⟩;refine c.laid (a:=s.heap.objs.size+1) (o:=.ins C s.heap.objs.size []) (t':=s.toks) (λb u q=>au _ q) (Nat.le_of_eq (j3 _ _)) ?_;have U:s.heap.objs.size≠s.heap.objs.size+1:=cf (gg _);refine⟨by rw[jo U,m6],ib _,U,V,λ_=>none,(Heap.Ns1.of_empty Y).at λo q=>au _ q,λ_=>True.intro,λy d=>absurd rfl d⟩
def Jr{env:Env}(I:attributeBase e f env (eval e env)=eval e env)(h:wpAny (model prog w) A (eval e env) (λo D=>wpAny (model prog w) A (getAttr o f true) Q E D) E s):wpAny (model prog w) A (eval (.Attribute e f pos) env) Q E s :=
 Attribute_any_ h (by rw[arm_eval_Attribute,I])
def yB(K:kf)(ta:TE)(f:Str):TE:=λσ H Q=>ta σ H λx H1=>∃a C dx fs v,x=.ref a/\H1 a=↑(.ins C dx fs)/\iO K C/\fA K C f/\fs.lookup f=↑v/\Q v H1
def yC(K:kf)(ta tv:TE)(f:Str):TS:=λD σ H=>tv σ H λy H1=>ta σ H1 λx H2=>∃a C dx fs,x=.ref a/\H2 a=↑(.ins C dx fs)/\iO K C/\fA K C f/\fs.length<1000 /\
 D.nx σ (aV H2 a (.ins C dx (eD f y fs)))
def Do(D:PE X e ta)(U:attributeBase e f X.env (eval e X.env)=eval e X.env):PE X (.Attribute e f pos) (yB X.K ta f):=by
 intro pins s σ H Q I h;refine Jr U (bI (D pins s σ H _ I h) λu g V=>?_);obtain⟨x,H1,Y,Z,a,C,dx,fs,v,ex,ea,c,n,l,q⟩:=V;subst ex;obtain rfl:u=Value.ref a:=Z;exact Jp Y ea c n l λi s2 b d=>⟨v,H1,b,d,q⟩
variable{o value:Expr}{tv:TE}
def Js(V:PE X o ta)(Y:PE X value tv)(Z:swapsWith value ↑(.Attribute o f pos') pos.line X.env=pure false):PS X (.Assign [.Attribute o f pos'] value pos) (yC X.K ta tv f):=by
 intro pins s σ H D I h;refine plainObj_wpAny_Assign_Attribute (bI (Y pins s σ H _ I h) λu b U=>?_) Z;obtain⟨y,H1,d,e,q⟩:=U;refine bI (V pins b σ H1 _ d q) λg s2 U=>?_;obtain⟨x,H2,i,j,a,C,dx,fs,ex,ea,c,n,l,k⟩:=U;subst ex;obtain rfl:g=Value.ref a:=j;exact Jq i ea c n l e λp m=>⟨σ,_,m,k⟩
inductive fJ (K:kf) (H:Hp):V->Value->Prop where
 |non:fJ K H .non (.type "NoneType")
 |bl (x:Bool):fJ K H (.bl x) (.type "bool")
 |int (i:Int):fJ K H ↥i (.type "int")
 |str (x:Str):fJ K H (.str x) (.type "str")
 |flt (x:UInt64):fJ K H (.flt x) (.type "float")
 |lst {a:Addr} {xs:k6} (e:H a=↑(.lst xs)):fJ K H (.ref a) (.type "list")
 |frz {a:Addr} {o:Obj} {xs:k6} (e:H a=↑(.frz o (.lst xs))):fJ K H (.ref a) (.type "list")
 |tup {a:Addr} {xs:k6} (e:H a=↑(.tup xs)):fJ K H (.ref a) (.type "tuple")
 |dK {a:Addr} {kvs:List (dU×V)} (e:H a=↑(.dK kvs)):fJ K H (.ref a) (.type "dict")
 |dT {a:Addr} {kvs:List (List dU×V)} (e:H a=↑(.dT kvs)):fJ K H (.ref a) (.type "dict")
 |ins {a C dx:Addr} {fs:List (Str×V)} (e:H a=↑(.ins C dx fs)) (cl:iO K C) (ha:PySem.W.findIn K (.ref C) "__class__" = ↑↑(.builtin "object.__class__"))
    (hn:PySem.W.specialIn K (.builtin "object.__class__") "__get__" = ↑↑(.builtin "getset_descriptor.__get__")) (htk:PySem.W.takesIn K (.builtin "object.__class__")=↑true)
    (hm:PySem.W.mroIn K C (.type "object")=↑true):fJ K H (.ref a) (.ref C)
variable{x:Str}{c:Value}
def Jt{x:V}{t:Value}(I:Inv X pins σ H s)(D:RelV x u)(ty:fJ X.K H x t)(e:PySem.W.kitOne X.K t c=↑b)(h:∀tk,Q (.bool b) { s with toks:=tk }) :
  wpAny (model X.prog X.w) A (call (.builtin "isinstance") [u,c]) Q E s:=by
 cases ty with
 |non=>cases (show u=Value.none from D);exact fz PySem.W.kitx_none I.kIn True.intro e (λz=>nomatch z) h
 |bl y=>cases (show u=Value.bool y from D);exact fz PySem.W.kitx_bool I.kIn True.intro e (λz=>nomatch z) h
 |int i=>obtain⟨t,q⟩:=(show ∃t,u=Value.int i t from D);cases q;exact fz PySem.W.kitx_int I.kIn True.intro e (λz=>nomatch z) h
 |str y=>obtain⟨t,q⟩:=(show ∃t,u=Value.str y t from D);cases q;exact fz PySem.W.kitx_str I.kIn True.intro e (λz=>nomatch z) h
 |flt y=>obtain⟨t,q⟩:=(show ∃t,u=Value.float y t from D);cases q;exact fz PySem.W.kitx_float I.kIn True.intro e (λz=>nomatch z) h
 | @lst a xs ea =>
   cases (show u=Value.ref a from D);obtain⟨_,_,n,_,h1⟩:=(show bP X.prog X.w H s.heap a (.lst xs) from I.hok a _ ea);exact fz uh I.kIn ⟨_,h1,rfl⟩ e (λz=>nomatch z) h
 | @frz a ob xs ea =>
   cases (show u=Value.ref a from D);obtain⟨_,_,_,n,_,h1⟩:=(show bP X.prog X.w H s.heap a (.frz ob (.lst xs)) from I.hok a _ ea);exact fz uh I.kIn ⟨_,h1,rfl⟩ e (λz=>nomatch z) h
 | @tup a xs ea =>
   cases (show u=Value.ref a from D);obtain⟨_,_,_,p⟩:=(show bP X.prog X.w H s.heap a (.tup xs) from I.hok a _ ea);obtain⟨o,h1,h2,_⟩:=p;exact fz PySem.W.kitx_tuple I.kIn ⟨o,h1,h2⟩ e (λz=>nomatch z) h
 | @dK a kvs ea =>
   cases (show u=Value.ref a from D);obtain⟨_,_,vs,_,p⟩:=(show bP X.prog X.w H s.heap a (.dK kvs) from I.hok a _ ea);obtain⟨o,es,U,h1,h2,_⟩:=p;exact fz PySem.W.kitx_dict I.kIn ⟨o,h1,h2.1⟩ e (λz=>nomatch z) h
 | @dT a kvs ea =>
   cases (show u=Value.ref a from D);obtain⟨_,_,xs,_,o,es,U,h1,h2,_⟩:=(show bP X.prog X.w H s.heap a (.dT kvs) from I.hok a _ ea);exact fz PySem.W.kitx_dict I.kIn ⟨o,h1,h2.1⟩ e (λz=>nomatch z) h
 | @ins a C dx fs ea cl ha hn htk hm =>
   cases (show u=Value.ref a from D);obtain⟨mA,O,_⟩:=sY I.hok ea;obtain⟨od,J,_⟩:=O.look;exact fz (PySem.W.kitx_own (cl.get _) cl.hd ha hn htk hm) I.kIn J e (λz=>nomatch z) h
structure bC (k:Nat) (A:Around):Prop where
 hd:A.handled=none
 dp:A.depth+3*k+5<recursionLimit
 un:A.units+16*k+200<cLine
def bC.mono{j:Nat}(r:bC k A)(h:j<=k):bC j A:=⟨r.hd,by have:=r.dp;omega,by have:=r.un;omega⟩
def bC.deeper(r:bC (k+1) A)(env:Env):bC k (A.deeper env) :=
 ⟨r.hd,by have:=r.dp;show A.depth+1+3*k+5<_;omega,by have:=r.un;show A.units+3+16*k+200<_;omega⟩
def Ju:(A.under (.builtin "type.__call__" ⟨.ref C::us,kw⟩)).depth=A.depth+1:=by
 first |rfl |simp[Around.under,Code.weight,Code.isCreation,Code.isGuard,Code.isCaller,Code.frames,Code.isFrame,guardIds]
def Jv:(A.under (.builtin "type.__call__" ⟨.ref C::us,kw⟩)).units=A.units+1:=by
 first |rfl |simp[Around.under,Code.cUnits,Code.frames,Code.isFrame]
def bC.make(r:bC (k+1) A)(C:Addr)(us:h7)(kw:List (Str×Value)):bC k (A.under (.builtin "type.__call__" ⟨.ref C::us,kw⟩)) :=
 ⟨r.hd,by have:=r.dp;rw[Ju];omega,by have:=r.un;rw[Jv];omega⟩
def bC.depth(r:bC k A):A.depth<recursionLimit:=by have:=r.dp;omega
def bC.units(r:bC k A):A.units+64<cLine:=by have:=r.un;omega
def lP:TA:=λ_ H Q=>Q [] H
def Dp(ta:TE)(tr:TA):TA:=λσ H Q=>ta σ H λx H1=>tr σ H1 λxs H2=>Q (x::xs) H2
def uz:PA X [] lP:=λ_ _ _ _ H Q I h=>Calls.spliced_nil ⟨[],H,I,.nil,h⟩
def qu(D:PE X e te)(U:PA X es t)(V:‹starEach (e::es) X.env=(false,eval e X.env)::starEach es X.env›):PA X (e::es) (Dp te t):=by
 intro pos pins s σ H Q I h;rw[V];show wpAny _ _ (spliced ((false,eval e X.env)::backTo pos (starEach es X.env))) _ _ s;refine Calls.spliced_cons (bI (D pins s σ H _ I h) λu Y Z=>?_);obtain⟨x,H1,a,b,c⟩:=Z;exact bI (U pos pins Y σ H1 _ a c) λus s2 ⟨xs,H2,I2,r2,q2⟩=>⟨x::xs,H2,I2,.cons b r2,q2⟩
def yD(t:TA):TE:=λσ H Q=>t σ H λxs H1=>xs.length<=sizeLine/\∀p,H1 p=none->Q (.ref p) (aV H1 p (.tup xs))
def yE(t:TA):TE:=λσ H Q=>t σ H λxs H1=>xs.length<=sizeLine/\∀p,H1 p=none->Q (.ref p) (aV H1 p (.lst xs))
def Jw{x1}(h:PA X es t):PE X (.Tuple es x1 pos) (yD t):=by
 intro pins s σ H Q I V;refine wpAny_Tuple_spliced (bI (h pos pins s σ H _ I V) λus D Y=>?_);obtain⟨xs,H1,U,r,z,q⟩:=Y;refine⟨by rw[<-r.length];exact z,?_⟩;have Z:H1 D.heap.objs.size=none:=U.hok.fresh (b9 _);refine⟨.ref D.heap.objs.size,aV H1 D.heap.objs.size (.tup xs),U.laid (t':=D.toks) (λb u e=>au _ e) (b9 _) ?_,rfl,q _ Z⟩;exact⟨z,us,r,⟨_,db _ rfl,rfl,_,rfl⟩⟩
def Dq(h:PA X es t):PE X (.List es pos) (yE t):=by
 intro pins s σ H Q I V;refine wpAny_List_spliced (bI (h pos pins s σ H _ I V) λus D Y=>?_);obtain⟨xs,H1,U,r,z,q⟩:=Y;refine⟨by rw[<-r.length];exact z,?_⟩;have Z:H1 D.heap.objs.size=none:=U.hok.fresh (b9 _);refine⟨.ref D.heap.objs.size,aV H1 D.heap.objs.size (.lst xs),U.laid (t':=D.toks) (λb u e=>au _ e) (b9 _) ?_,rfl,q _ Z⟩;exact⟨z,us,0,r,db _ rfl⟩
abbrev Sp:=k6->Hp->VK->XK->Prop
abbrev iP:=ip->Hp->Shared->XK->Value->Shared->Prop
structure gX (P:Program) (w:World) (K:kf) (mg:Str->h8) (base:Heap) (A:Around) (outer:ip) (s:Shared) (H:Hp):Prop where
 frames:A.frames=↑outer
 mod:Mod K mg base
 bs:∀b o,base.get? b=↑o->s.heap.get? b=↑o/\H b=none
 bsz:base.objs.size<=s.heap.objs.size
 funs:s.heap.FunFrames base outer
 frf:∀b∈fF outer,H b=none
 hok:e_ P w H s.heap
 bare:AllBare s.gens
def CE(outer:ip)(P:Program)(w:World)(H:Hp)(s:Shared)(Q:VK)(u:Value)(s':Shared):Prop :=
 ∃v H',s'.os=s.os/\AllBare s'.gens/\Un (fF outer) [] H H' s.heap s'.heap/\e_ P w H' s'.heap/\RelV v u/\Q v H'
def CR(CX:iP)(outer:ip)(P:Program)(w:World)(H:Hp)(s:Shared)(Q:VK)(E:XK)(r:Result)(s':Shared):Prop :=
 match r with
 | .ok (.ret u)=>CE outer P w H s Q u s' | .ok _=>False | .error e=>CX outer H s E e s'
structure cK (P:Program) (w:World) (K:kf) (mg:Str->h8) (base:Heap) (CX:iP) (k:Nat) (f:Addr) (fd:FuncData) (ps:h6) (sp:Sp):Prop where
 len:∀vs H Q E,sp vs H Q E->vs.length=ps.length
 run:∀(A:Around) (outer:ip) (s:Shared) (H:Hp) (args:Args) (us:h7) (vs:k6) (Q:VK) (E:XK),bC k A->gX P w K mg base A outer s H->BindsTo s fd args (ps.zip us)->aP vs us->sp vs H Q E ->
  codeAny (model P w) A (.call (.ref f) args) (CR CX outer P w H s Q E) s
variable{f:Addr}{mg:Str->h8}{base:Heap}{CX:iP}{fd:FuncData}{ps:h6}{sp:Sp}
theorem cK.imp{D:Sp}(F:cK P w K mg base CX k f fd ps sp)(h:∀vs H Q E,D vs H Q E->sp vs H Q E):cK P w K mg base CX k f fd ps D :=
 ⟨λvs H Q E q=>F.len vs H Q E (h _ _ _ _ q),λA outer s H args us vs Q E I U V Y Z=>F.run A outer s H args us vs Q E I U V Y (h _ _ _ _ Z)⟩
variable{outer:ip}
def gX.make(e:gX P w K mg base A outer s H)(C:Addr)(us:h7)(kw:List (Str×Value)) :
  gX P w K mg base (A.under (.builtin "type.__call__" ⟨.ref C::us,kw⟩)) outer s H:=⟨by first |exact e.frames | (simpa[Around.under,Code.envs,Code.isFrame,pushEnvs] using e.frames),e.mod,e.bs,e.bsz,e.funs,e.frf,e.hok,e.bare⟩
protected def Inv.env0(I:Inv X pins σ H s):gX X.prog X.w X.K X.mg X.base X.A X.stack s H :=
 ⟨I.ok.frames,I.ok.mod,I.bs,d7 I.ok.bsz I.sz,I.stack,I.stkFree,I.hok,I.bare⟩
variable{Q:VK}
def Inv.after(I:Inv X pins σ H s)(h:CE X.stack X.prog X.w H s Q u s'):EP X pins σ Q u s':=by
 obtain⟨v,H',os,D,un,U,r,q⟩:=h;obtain⟨Y,g,d,t,V⟩:=s';obtain rfl:V=s.os:=os;exact⟨v,H',I.call (h':=Y) (g':=g) (d':=d) (t':=t) (ch:=[]) un U D (λb z=>absurd z ⋯),r,q⟩
def sZ(sp:Sp)(dvs:k6)(E:XK)(t:TA):TE:=λσ H Q=>t σ H λvs H1=>sp (vs++dvs) H1 Q E
def Binds(K:kf)(fd:FuncData)(ps:h6)(ds:h7):Prop :=
 ∀(s:Shared) (us:h7),K.In s.heap->(us++ds).length=ps.length->BindsTo s fd ⟨us,[]⟩ (ps.zip (us++ds))
def Binds.all(h:∀us:h7,us.length=ps.length->bindArgs fd ⟨us,[]⟩=pure (ps.zip us)):Binds K fd ps []:=λs us _ D=>by
 rw[du] at D ⊢;exact .of_eq (h us D)
def yF(CX:iP)(X:Cx)(E:XK):Prop:=∀(pins:kv) (σ:St) (H:Hp) (s:Shared) (e:Value) (s':Shared),Inv X pins σ H s->CX X.stack H s E e s'->X.xe e s'
variable{E:XK}{dvs:k6}{ds:h7}
theorem Jx(F:cK X.prog X.w X.K X.mg X.base CX k f fd ps sp)(V:bC k X.A)(Y:Binds X.K fd ps ds)(hd:aP dvs ds)(Z:yF CX X E)(I:Inv X pins σ H s)(r:aP vs us)(h:sp (vs++dvs) H Q E):wpAny (model X.prog X.w) X.A (call (.ref f) us) (EP X pins σ Q) X.xe s:=by
 have U:aP (vs++dvs) (us++ds):=r.append hd;have a:(us++ds).length=ps.length:=by rw[<-U.length];exact F.len _ _ _ _ h
 refine nn (j5 (F.run X.A X.stack s H ⟨us,[]⟩ (us++ds) (vs++dvs) Q E V I.env0 (Y s us I.kIn a) U h) λr s' D=>?_);cases r with
 |error e=>exact Z pins σ H s e s' I D |ok fl =>
   cases fl with
   |ret u=>exact I.after D |next=>exact False.elim D |brk=>exact False.elim D |cont=>exact False.elim D
def yG(F:cK X.prog X.w X.K X.mg X.base CX k f fd ps sp)(Y:bC k X.A)(Z:Gl X x)(a:X.mg x=↑(.ref f))(b:PySem.W.keepIn X.K (.ref f)=true)(c:Binds X.K fd ps ds)(hd:aP dvs ds)(d:yF CX X E)(g:PA X (e::es) t)(D:(x==("__debug__" : Str))=false:=by decide)(i:‹starEach (e::es) X.env=(false,eval e X.env)::starEach es X.env›)(U:‹(backTo pos (starEach es X.env)).any (·.1)=false›) :
  PE X (.Call (.Name x p) (e::es) [] pos) (sZ sp dvs E t):=by
 intro pins s σ H Q I h;refine je (lK I Z a ?_ D);refine kx (h₀:=X.base) I.ok.mod.kin b (bI (g pos pins s σ H _ I h) λus l j=>?_) i U;obtain⟨vs,H1,V,r,q⟩:=j;refine⟨V.kIn,?_⟩;exact Jx F Y c hd d V r q
structure Mk (K:kf) (C f:Addr):Prop where
 makes:PySem.W.makesIn K C=true
 init:PySem.W.findIn K (.ref C) "__init__" = ↑↑(.ref f)
 fn:PySem.W.isFn K (.ref f)=true
 kp:PySem.W.keepIn K (.ref C)=true
def PK(X:Cx)(kws:List Keyword)(t:TA):Prop :=
 ∀(pos:Pos) (pins:kv) (s:Shared) (σ:St) (H:Hp) (Q:k6->Hp->Prop),Inv X pins σ H s->t σ H Q->wpAny (model X.prog X.w) X.A (evalAll ((backToKw pos (keywordEach kws X.env)).map (·.2))) (AP X pins σ Q) X.xe s
section
variable {X:Cx} {CX:iP} {k:Nat} {f C:Addr} {fd:FuncData} {ps ks:h6} {sp:Sp} {E:XK} {x m:Str} {p pos apos kpos:Pos} {e o:Expr} {es:i0} {kws:List Keyword} {te ta:TE} {t tk:TA} {nm:ka}
def Jy:PK X [] lP:=λ_ _ _ _ H Q I h=>wpAny_evalAll_nil ⟨[],H,I,.nil,h⟩
def Jz(D:PE X e te)(U:PK X kws t):PK X (⟨nm,e,kpos⟩::kws) (Dp te t):=by
 intro pos pins s σ H Q I h;show wpAny _ _ (evalAll ((do let v <-eval e X.env;standAt pos;pure v)::(backToKw pos (keywordEach kws X.env)).map (·.2))) _ _ s;refine wpAny_evalAll_cons (ax (bI (D pins s σ H _ I h) λu V Y=>?_));obtain⟨x,H1,Z,a,b⟩:=Y;refine ax (ph (dg ?_));exact bI (U pos pins V σ H1 _ Z b) λus s2 ⟨xs,H2,I2,r2,q2⟩=>⟨x::xs,H2,I2,.cons a r2,q2⟩
structure PQ (K:kf) (fd:FuncData) (ps ks:h6) (g:h7->h7->h7) (gV:k6->k6->k6):Prop where
 to:∀(s:Shared) (us ws:h7),K.In s.heap->(g us ws).length=ps.length->BindsTo s fd ⟨us,ks.zip ws⟩ (ps.zip (g us ws))
 rel:∀ {vs:k6} {us:h7} {zs:k6} {ws:h7},aP vs us->aP zs ws->aP (gV vs zs) (g us ws)
variable {g:h7->h7->h7} {gV:k6->k6->k6}
end
structure we (N P:h6) (sc:Scope):Prop where
 kind:sc.kind=.function
 co:sc.isCoroutine=false
 gen:sc.isGenerator=false
 nd:N.Nodup
 pre:N.take P.length=P
 par:∀x∈P,sc.names.lookup x=some .local\/sc.names.lookup x=some .cell
 nofree:∀y∈sc.names,y.2≠.free
def Dr{kindOf:Str->Option NameKind}{x:Str}:∀ {D:List (Str×Value)} {m:Str->h8},(∀v,(x,v)∉D)->bindL kindOf D m x=m x
 | [],_,_=>rfl | (n,v)::r,m,h=>by
   unfold bindL;rw[Dr λw I=>h w (ay _ I)];split
   ·have:x≠n:=by rintro rfl;exact h v bi
    simp[this]
   ·rfl
def Ds{kindOf:Str->Option NameKind}{x:Str}:∀ {D:List (Str×Value)} {m:Str->h8},(∀v,(x,v)∉D)->bindC kindOf D m x=m x
 | [],_,_=>rfl | (n,v)::r,m,h=>by
   unfold bindC;rw[Ds λw I=>h w (ay _ I)];split
   ·rfl
   ·have:x≠n:=by rintro rfl;exact h v bi
    simp[this]
def Dt{kindOf:Str->Option NameKind}{x:Str}{v:Value}:∀ {P:h6} {vs:h7} {i:Nat} {m:Str->h8},P.Nodup->P[i]?=↑x->vs[i]?=↑v->kindOf x=some .local ->
  bindL kindOf (P.zip vs) m x=↑v
 | [],_,_,_,_,h,_,_=>by simp at h |_::_,[],_,_,_,_,h,_=>by simp at h |p::P,w::vs,0,m,nd,h1,h2,hk=>by
   simp at h1 h2;subst h1;subst h2;show bindL kindOf ((p,w)::P.zip vs) m p=_;unfold bindL;rw[Dr λv D=>(ci.mp nd).1 (kt D).1,aq hk];simp
 |p::P,w::vs,i+1,m,nd,h1,h2,hk=>by
   show bindL kindOf ((p,w)::P.zip vs) m x=_;unfold bindL;exact Dt (i:=i) (ci.mp nd).2 (by simpa using h1) (by simpa using h2) hk
def Du{kindOf:Str->Option NameKind}{x:Str}{v:Value}:∀ {P:h6} {vs:h7} {i:Nat} {m:Str->h8},P.Nodup->P[i]?=↑x->vs[i]?=↑v->kindOf x≠some .local ->
  bindC kindOf (P.zip vs) m x=↑v
 | [],_,_,_,_,h,_,_=>by simp at h |_::_,[],_,_,_,_,h,_=>by simp at h |p::P,w::vs,0,m,nd,h1,h2,hk=>by
   simp at h1 h2;subst h1;subst h2;show bindC kindOf ((p,w)::P.zip vs) m p=_;unfold bindC;rw[Ds λv D=>(ci.mp nd).1 (kt D).1,b7 hk];simp
 |p::P,w::vs,i+1,m,nd,h1,h2,hk=>by
   show bindC kindOf ((p,w)::P.zip vs) m x=_;unfold bindC;exact Du (i:=i) (ci.mp nd).2 (by simpa using h1) (by simpa using h2) hk
def start(N:h6)(vs:k6):St:=vs.map some++List.replicate (N.length-vs.length) none
def cI(CX:iP)(P:Program)(w:World)(K:kf)(mg:Str->h8)(base:Heap)(N:h6)(qual:Str)(scope:Scope)(f:Addr)(cd:Value)(A:Around)(outer:ip)(s:Shared)(H:Hp)(E:XK):Cx where
 prog:=P
 w:=w
 K:=K
 mg:=mg
 base:=base
 A:=A.deeper (envOfC qual scope s.heap.objs.size f cd)
 N:=N
 s₀:=s
 H₀:=H
 env:=envOfC qual scope s.heap.objs.size f cd
 outer:=outer
 stack:=envOfC qual scope s.heap.objs.size f cd::outer
 ex:=[]
 calm:=true
 fn:=λ_=>true
 pn:=[]
 xe:=λe s'=>wpAny (model P w) (A.deeper (envOfC qual scope s.heap.objs.size f cd)) (leaving (envOfC qual scope s.heap.objs.size f cd) e) (λ_ D=>CX outer H s E e D) (λe' D=>CX outer H s E e' D) s'
def Dv{sc:Scope}(h:sc.names.lookup x=some .cell):∃c,(cellsFrom n sc.names []).lookup x=↑c:=by
 have q:=og sc.names n [] (.inl h);exact nh.mp q
variable{qual:Str}{scope:Scope}
def Dw{cd:Value}{Y:Shared}(S:we N ps scope)(hd:A.handled=none)(D:gX P w K mg base A outer s H)(m:vs.length=ps.length)(r:aP vs us)(x:InCallC s s.heap.objs.size (bindL (envOfC qual scope s.heap.objs.size f cd).kindOf (ps.zip us) λ_=>none) (cellsFrom (s.heap.objs.size+1) scope.names []) (bindC (envOfC qual scope s.heap.objs.size f cd).kindOf (ps.zip us) λ_=>none) Y) :
  Inv (cI CX P w K mg base N qual scope f cd A outer s H E) [] (start N vs) H Y:=by
 have g:ps.length<=N.length:=by have:=congrArg List.length S.pre;rw[fj] at this;omega
 obtain⟨h1,tk,rfl,Z⟩:=x.done;have I:∀b:Addr,b∉(cI CX P w K mg base N qual scope f cd A outer s H E).ex:=λb z=>absurd (show b∈([]:ia) from z) ⋯;refine⟨⟨D.mod,S.kind,rfl,rfl,b9 _,λy z c h1 h2=>?_,λy hy=>?_,λy c _ h=>?_,λ_=>hd,Around.frames_deeper D.frames,.inr ⟨rfl,rfl⟩,λb z=>absurd z (I b),D.bs,D.bsz,λb _ _=>I b,λb z=>absurd z (I b),D.funs,D.frf⟩,
  rfl,D.bare,Un.kept Z,⟨_,x.toInCall.ns,λi y v h1 h2 o=>?_⟩,λy c h=>⟨_,x.cell y c h⟩,D.hok.fresh (b9 _),λy c h=>?_,λp U=>absurd (show p∈([]:kv) from U) ⋯,D.hok.kept Z,?_⟩
 ·exact name_of_addr x.apart (f6 h1) (f6 h2)
 ·have hy:scope.names.lookup y=some .cell\/scope.names.lookup y=some .free:=hy
  rcases hy with hy |hy
  ·exact Dv hy
  ·exact absurd rfl (S.nofree _ (f6 hy))
 ·exact mj (x.above y c (f6 h))
 ·have hi:i<vs.length:=by
   unfold start at h2;by_cases hi:i<vs.length
   ·exact hi
   ·rw[dc (by simpa using hi)] at h2
    rw[List.getElem?_replicate] at h2;split at h2 <;> cases h2
  have j:vs[i]?=↑v:=by
   unfold start at h2;rw[bg (by simpa using hi),b8] at h2;cases e:vs[i]? with
   |none=>rw[e] at h2;cases h2
   |some a=>rw[e] at h2;cases h2;rfl
  obtain⟨u,d,l⟩:=r.get j;have U:ps[i]?=↑y:=by
   rw[<-S.pre,List.getElem?_take_of_lt (by omega)];exact h1
  have V:ps.Nodup:=by rw[<-S.pre];exact S.nd.sublist (List.take_sublist _ _)
  refine⟨u,l,?_⟩;rcases S.par y (bc U) with k |k
  ·exact .inl ⟨k,Dt V U d k⟩
  ·obtain⟨c,e⟩:=Dv (n:=s.heap.objs.size+1) k
   refine .inr ⟨.inl k,c,e,?_⟩;have q:=x.cell y c e;rw[Du V U d (by show scope.names.lookup y≠_;rw[k];decide)] at q;exact q
 ·exact D.hok.fresh (mj (x.above y c (f6 h)))
 ·unfold start
  show _=N.length;rw[ak,ah,f7];omega
def J0{D:Arguments}{p kV c z cdv ct oc:Value}{an od:Option Addr}{osl:Array h8}(F:K.lookup f=↑⟨oc,od,.func (PySem.W.fnOf name qual D body scope p kV c z an cdv ct),osl⟩)(i:PySem.W.codeIn K cdv qual=true)(S:we N ps scope)(len:∀vs H Q E,sp vs H Q E->vs.length=ps.length)(Y:∀(A:Around) (outer:ip) (s:Shared) (H:Hp) (vs:k6) (Q:VK) (E:XK),bC k (A.deeper (envOfC qual scope s.heap.objs.size f cdv))->sp vs H Q E ->
   ∃t,hU (cI CX P w K mg base N qual scope f cdv A outer s H E) body t/\t { nx:=λ_ H'=>Q .non H',rt:=Q } (start N vs) H) :
  cK P w K mg base CX (k+1) f (PySem.W.fnOf name qual D body scope p kV c z an cdv ct) ps sp:=by
 refine⟨len,λA outer s H args us vs Q E j d G r g=>?_⟩;have L:=len _ _ _ _ g;have B:K.In s.heap:=d.mod.kin.keeps λb o e=>(d.bs b o e).1;have l:s.heap.NoLimit:=d.mod.nolimit.keeps λb o e=>(d.bs b o e).1;have Z:∀y∈ps.zip us,scope.names.lookup y.1=some .local\/(scope.names.lookup y.1=some .cell/\((cellsFrom (s.heap.objs.size+1) scope.names []).lookup y.1).isSome=true):=λ⟨n,v⟩ hy=>by
  rcases S.par n (kt hy).1 with q |q
  ·exact .inl q
  ·exact .inr ⟨q,og _ _ _ (.inl q)⟩
 refine codeAny_call_function j.depth (B _ _ F) rfl S.co S.gen rfl (PySem.W.codeRec_of B i) (G _ _ _ _ ?_);refine wpAny_newFunctionEnv_cells S.kind Z λenv M C x=>?_;subst M;refine⟨l.keeps x.toInCall.keep,codeAny_func ?_⟩;obtain⟨t,O,R⟩:=Y A outer s H vs Q E (j.deeper _) g;have I:Inv (cI CX P w K mg base N qual scope f cdv A outer s H E) [] (start N vs) H C:=Dw S j.hd d L r x;refine jd (O [] C (start N vs) H _ I R) (λfl s' a=>?_) λe s' a=>a;have h:∀ {U:St} {H':Hp} {v:V} {u:Value},Inv (cI CX P w K mg base N qual scope f cdv A outer s H E) [] U H' s'->RelV v u->Q v H'->CE outer P w H s Q u s' :=
  λ{U H' v u} J m q=>⟨v,H',J.os,J.bare,J.base,J.hok,m,q⟩
 cases fl with
 |ret u =>
   obtain⟨v,U,H',J,m,q⟩:=a;exact h J m q
 |next =>
   obtain⟨U,H',J,q⟩:=a;exact h (v:=V.non) (u:=Value.none) J rfl q
 |brk =>
   obtain⟨_,_,_,q⟩:=a;exact False.elim q
 |cont =>
   obtain⟨_,_,_,q⟩:=a;exact False.elim q
def s_(r:k6->Hp->VK->Prop)(t:TA):TE:=λσ H Q=>t σ H λvs H1=>r vs H1 Q
variable{r:k6->Hp->VK->Prop}{id:String}
def nG(V:t9 X (.builtin id) r)(Y:Gl X x)(Z:X.mg x=none)(a:bootBuiltins x=↑(.builtin id))(b:PA X (e::es) t)(c:x ≠ "__name__":=by decide)(D:(x==("__debug__" : Str))=false:=by decide)(d:‹starEach (e::es) X.env=(false,eval e X.env)::starEach es X.env›)(U:‹(backTo pos (starEach es X.env)).any (·.1)=false›):PE X (.Call (.Name x p) (e::es) [] pos) (s_ r t):=by
 intro pins s σ H Q I h;refine je (y8 I Y Z a ?_ c D);exact PyProof.Rows.callWith_builtin1 (bI (b pos pins s σ H _ I h) λus s1 ⟨vs,H1,I1,r1,q1⟩=>V pins s1 σ H1 vs us Q I1 r1 q1) d U
variable{T:String}
def Dx(V:t9 X (.type T) r)(Y:Gl X x)(Z:X.mg x=none)(a:bootBuiltins x=↑(.type T))(b:PA X (e::es) t)(c:x ≠ "__name__":=by decide)(D:(x==("__debug__" : Str))=false:=by decide)(d:‹starEach (e::es) X.env=(false,eval e X.env)::starEach es X.env›)(U:‹(backTo pos (starEach es X.env)).any (·.1)=false›):PE X (.Call (.Name x p) (e::es) [] pos) (s_ r t):=by
 intro pins s σ H Q I h;refine je (y8 I Y Z a ?_ c D);exact i5 (bI (b pos pins s σ H _ I h) λus s1 ⟨vs,H1,I1,r1,q1⟩=>V pins s1 σ H1 vs us Q I1 r1 q1) d U
end L2
namespace HT
open PySem PyProof.Rows
section
open PySem.SeqAt
open PySem.AutoSeq1 (wpAny_loadPart')
open PySem.MeetsSeq PySem.MeetsSeq2 PySem.MeetsSeq3
end
def sIx(n d:Nat):kb->Nat
 |none=>d |some v=>if v<0 then(v+(n:Int)).toNat else min v.toNat n
def sIx_none(n d:Nat):sIx n d none=d:=rfl
def sIx_nat(n d k:Nat):sIx n d ↑(k:Int)=min k n:=by
 show(if (k:Int)<0 then((k:Int)+(n:Int)).toNat else min (k:Int).toNat n)=min k n;rw[b7 (by omega),gl]
end HT
namespace L2
open PySem PySem.Spec PyProof.Rows
abbrev TO:=St->Hp->(kb->Hp->Prop)->Prop
def PO(X:Cx)(e:Option Expr)(t:TO):Prop :=
 ∀(pins:kv) (s:Shared) (σ:St) (H:Hp) (Q:kb->Hp->Prop),Inv X pins σ H s->t σ H Q ->
  wpAny (model X.prog X.w) X.A (evalPart e X.env) (λu s'=>∃o H',Inv X pins σ H' s'/\IsPart u o/\Q o H') X.xe s
def J1:TO:=λ_ H Q=>Q none H
def J2(t:TE):TO:=λσ H Q=>t σ H λx H1=>∃i,x=.int i/\Q ↑i H1
def J4{D:ik}:∀ {us:h7},aP (D.map V.int) us->IntsAre us D:=by
 induction D with
 |nil=>intro us r;rw[dm] at r;cases r;exact .nil
 |cons n D ih =>
   intro us r;rw[bq] at r;cases r with
   |cons r1 r2 =>
     obtain⟨t,e⟩:=r1;subst e;exact .cons n t (ih r2)
variable{X:Cx}
def J6:PO X none J1:=by
 intro pins s σ H Q I h;rw[evalPart_none];exact dg ⟨none,H,I,.none,h⟩
variable{e:Expr}{te:TE}
def J8(h:PE X e te):PO X ↑e (J2 te):=by
 intro pins s σ H Q I D;rw[evalPart_some];refine bI (h pins s σ H _ I D) λu a U=>?_;obtain⟨x,H1,V,Y,Z⟩:=U;obtain⟨i,rfl,q⟩:=Z;obtain⟨t,rfl⟩:=Y;exact⟨↑i,H1,V,.int i t,q⟩
variable{lo hi:Option Expr}
def Dy(X:Cx)(r:V->kb->kb->Hp->VK->Prop):Prop :=
 ∀(pins:kv) (s:Shared) (σ:St) (H:Hp) (x:V) (v D I:Value) (lo hi:kb) (sl:Addr) (Q:VK),Inv X pins σ H s->RelV x v->s.heap.IsSliceOf sl D I .none->IsPart D lo->IsPart I hi->r x lo hi H Q ->
  ∃T id,typeLookup (.type T) "__getitem__" = pure ↑(.builtin id)/\s.TypeIs v T/\wpAny (model X.prog X.w) X.A (getItem v (.ref sl)) (EP X pins σ Q) X.xe s
def J9(r:V->kb->kb->Hp->VK->Prop)(te:TE)(tl th:TO):TE:=λσ H Q=>te σ H λx H1=>tl σ H1 λl H2=>th σ H2 λu D=>r x l u D Q
variable{r:R2}{tl th:TO}{pos p2:Pos}
def JA{r:V->kb->kb->Hp->VK->Prop}(c:Dy X r)(d:PE X e te)(f:PO X lo tl)(g:PO X hi th):PE X (.Subscript e (.Slice lo hi none p2) pos) (J9 r te tl th):=by
 intro pins s σ H Q I h;refine Subscript_ (bI (d pins s σ H _ I h) λv i U=>?_);obtain⟨x,H1,j,k,m⟩:=U;refine wpAny_Slice (bI (f pins i σ H1 _ j m) λY s2 U=>?_);obtain⟨l,H2,n,pl,o⟩:=U;refine bI (g pins s2 σ H2 _ n o) λZ D U=>?_;obtain⟨u,a,p,t,y⟩:=U;rw[evalPart_none];refine dg ?_;have z:Inv X pins σ a { D with heap:=D.heap.push { cls:=.type "slice",data:=.fields #[Y,Z,.none] } }:=p.kept (t':=D.toks) λb E q=>au _ q;obtain⟨T,id,hT,B,C⟩:=c pins { D with heap:=D.heap.push { cls:=.type "slice",data:=.fields #[Y,Z,.none] } } σ a x v Y Z l u D.heap.objs.size Q z k (Heap.IsSliceOf.new ..) pl t y;show wpAny (model X.prog X.w) X.A (subscriptTail e (.Slice lo hi none p2) v (.ref D.heap.objs.size)) (EP X pins σ Q) X.xe { D with heap:=D.heap.push { cls:=.type "slice",data:=.fields #[Y,Z,.none] } };exact tail_any (ops:=[.ref D.heap.objs.size,v]) B hT C (by with_unfolding_all rfl)
def jA(xs:k6)(lo hi:kb):k6:=(xs.drop (HT.sIx xs.length 0 lo)).take (HT.sIx xs.length xs.length hi-HT.sIx xs.length 0 lo)
def JB(xs:k6)(lo hi:kb):(jA xs lo hi).length<=xs.length:=by
 unfold jA;rw[fj,fm];omega
def dV(n:Nat)(i:Int):Option Nat:=if 0<=i then(if i<n then ↑i.toNat else none) else if -(n:Int)<=i then ↑(i+n).toNat else none
variable{α:Type}
def bF(xs:List α)(i:Int):Option α:=(dV xs.length i).bind λj=>xs[j]?
variable{n j:Nat}{i:Int}
def tp(h:dV n i=↑j):seqIndex? i n=↑j/\j<n/\-(n:Int)<=i/\i<n:=by
 unfold dV at h;by_cases D:0<=i
 ·rw[aq D] at h
  by_cases h1:i<n
  ·rw[aq h1] at h
   have e:i.toNat=j:=cg h;exact⟨by rw[seqIndex_of D h1,e],by omega,by omega,h1⟩
  ·rw[b7 h1] at h;cases h
 ·rw[b7 D] at h
  by_cases h1:-(n:Int)<=i
  ·rw[aq h1] at h
   have e:(i+n).toNat=j:=cg h;exact⟨by rw[seqIndex_neg (by omega) h1,e],by omega,h1,by omega⟩
  ·rw[b7 h1] at h;cases h
def yH{xs:List α}{v:α}(h:bF xs i=↑v):∃j,seqIndex? i xs.length=↑j/\xs[j]?=↑v/\j<xs.length/\-(xs.length:Int)<=i/\i<xs.length:=by
 unfold bF at h;cases e:dV xs.length i with
 |none=>rw[e] at h;cases h
 |some j =>
   rw[e] at h;obtain⟨h1,h2,D,I⟩:=tp e;exact⟨j,h1,h,h2,D,I⟩
def Dz{xs:List α}{v:α}(h:xs[j]?=↑v):bF xs (j:Int)=↑v:=by
 have D:j<xs.length:=(aj.mp h).1;have e:dV xs.length (j:Int)=↑j:=by
  unfold dV;rw[aq (by omega),aq (by omega)];simp
 unfold bF;rw[e];exact h
def JC(xs:List α)(v:α):bF (xs++[v]) (-1)=↑v:=by
 have D:(xs++[v]).length=xs.length+1:=by simp
 have e:dV (xs++[v]).length (-1)=↑xs.length:=by
  unfold dV;rw[D,b7 (by decide),aq (by omega)];congr 1;omega
 unfold bF;rw[e];show(xs++[v])[xs.length]?=↑v;simp
def lQ(b:Expr):Prop:=∀o i,subscripted b false o i=operate [o,i] (getItem o i)
def kJ(X:Cx)(r:R2):Prop :=
 ∀(value D:Expr) (pins:kv) (s:Shared) (σ:St) (H:Hp) (x y:V) (v u:Value) (Q:VK),Inv X pins σ H s->RelV x v->RelV y u->r x y H Q ->
  subscripted D false v u=operate [v,u] (getItem v u)->wpAny (model X.prog X.w) X.A (subscriptTail value D v u) (EP X pins σ Q) X.xe s
def D0(X:Cx)(id:String)(r:V->k6->Hp->VK->Prop):Prop :=
 ∀(pins:kv) (s:Shared) (σ:St) (H:Hp) (x:V) (xs:k6) (v:Value) (us:h7) (Q:VK),Inv X pins σ H s->RelV x v->aP xs us->r x xs H Q ->
  wpAny (model X.prog X.w) X.A (call (.builtin id) (v::us)) (EP X pins σ Q) X.xe s
def kJ.or{U:R2}(h:kJ X r)(h':kJ X U):kJ X (λx y H Q=>r x y H Q\/U x y H Q):=by
 intro value D pins s σ H x y v u Q I V Y q Z;rcases q with q |q
 ·exact h value D pins s σ H x y v u Q I V Y q Z
 ·exact h' value D pins s σ H x y v u Q I V Y q Z
variable{a b:Expr}{ta tb:TE}
def pT(D:kJ X r)(U:PE X a ta)(V:PE X b tb)(Y:lQ b):PE X (.Subscript a b pos) (pP r ta tb):=by
 intro pins s σ H Q I h;exact Subscript_ (lN U V I h λv u s2 x y H2 Z c d q=>D a b pins s2 σ H2 x y v u Q Z c d q (Y _ _))
def pU(K:kf):R2:=λx y H Q=>∃p xs i v,x=.ref p/\y=.int i/\dI K H p xs/\bF xs i=↑v/\Q v H
def pV(K:kf):R2:=λx y H Q=>∃p xs i v,x=.ref p/\y=.int i/\eX K H p xs/\bF xs i=↑v/\Q v H
def pW:R2:=λx y H Q=>∃z i c,x=.str z/\y=.int i/\z.length<=sizeLine/\bF z.cps.toList i=↑c/\Q (.str ⟨#[c]⟩) H
def tE:kJ X (pU X.K):=by
 intro value U pins s σ H x y v u Q I c d h Z;obtain⟨p,xs,i,z,rfl,rfl,e,f,q⟩:=h;cases c;obtain⟨t,rfl⟩:=d;obtain⟨its,r,pl,m⟩:=I.list e;obtain⟨j,h1,h2,n,g,k⟩:=yH f;obtain⟨w,a,V⟩:=r.get h2;have l:=r.length;have o:=nF;have D:EP X pins σ Q w s:=⟨z,H,I,V,q⟩;by_cases b:0<=i
 ·have Y:i.toNat=j:=by
   rw[seqIndex_of b k] at h1;exact cg h1
  exact item_listR pl.isList b (by omega) (by rw[Y];simpa using a) D Z
 ·have Y:(i+(its.toArray.size:Int)).toNat=j:=by
   rw[seqIndex_neg (by omega) g] at h1;rw[cb,<-l];exact cg h1
  exact subscriptTail_builtinR (x:=w) pl.isList.typeIs slot_list_getitem.lookup
   (wpAny_getItem_list_neg (Q:=λr s'=>r=w/\EP X pins σ Q r s') pl.isList (by omega) (by rw[cb] <;> omega) (by omega) (by rw[Y];simpa using a) ⟨rfl,D⟩) Z
def JD:kJ X (pV X.K):=by
 intro value D pins s σ H x y v u Q I Y Z h a;obtain⟨p,xs,i,z,rfl,rfl,b,c,q⟩:=h;cases Y;obtain⟨t,rfl⟩:=Z;obtain⟨its,r,pl,f⟩:=I.tuple b;obtain⟨j,h1,h2,g,k,l⟩:=yH c;obtain⟨w,d,U⟩:=r.get h2;have e:=r.length;have m:=nF;have V:EP X pins σ Q w s:=⟨z,H,I,U,q⟩;exact subscriptTail_builtinR (x:=w) pl.typeIs slot_tuple_getitem.lookup
  (getItem_tuple (j:=j) (Q:=λr s'=>r=w/\EP X pins σ Q r s') pl (by omega) (by omega) (by rw[cb,<-e];exact h1) (by simpa using d) ⟨rfl,V⟩) a
def JE:kJ X pW:=by
 intro value D pins s σ H x y v u Q I U V h Y;obtain⟨z,i,c,rfl,rfl,g,Z,q⟩:=h;obtain⟨t,rfl⟩:=U;obtain⟨t',rfl⟩:=V;obtain⟨j,h1,h2,k,a,b⟩:=yH Z;have d:z.cps.toList.length=z.length:=by simp[Str.length]
 rw[d] at h1 a b;have l:=nF;exact tail_any (typeIs_str s z t) slot_str_getitem.lookup (getItem_str (c:=c) (by
  have e:decide (i < -(2 ^ 63:Int))=false:=em (by omega);have f:decide (i >= 2 ^ 63)=false:=em (by omega);rw[e,f,Bool.or_false]) (by rw[h1];simpa using h2) ⟨.str ⟨#[c]⟩,H,I.tok _,⟨_,rfl⟩,q⟩) Y
def D1(K:kf):R2:=λx y H Q=>pU K x y H Q\/pV K x y H Q\/pW x y H Q
def D2:kJ X (D1 X.K):=tE.or (JD.or JE)
def JF(its:h7)(n j:Nat)(u:Value):Obj.mapSeq (·.setIfInBounds j u) { cls:=.type "list",data:=.seq its.toArray n }={ cls:=.type "list",data:=.seq (its.set j u).toArray n }:=by
 simp[Obj.mapSeq]
def Inv.lst{pins:kv}{σ:St}{H:Hp}{s:Shared}{p:Addr}{xs:k6}(I:Inv X pins σ H s)(h:H p=↑(.lst xs)) :
  ∃(its:h7) (n:Nat),aP xs its/\s.heap.get? p=some { cls:=.type "list",data:=.seq its.toArray n }/\xs.length<=sizeLine:=by
 obtain⟨z,its,n,r,e⟩:=I.hok p _ h;exact⟨its,n,r,e,z⟩
variable{pins:kv}{σ:St}{H:Hp}{s:Shared}{xs ys:k6}{its its':h7}
def Inv.lstUpd{p:Addr}{D:Nat}{f:Obj->Obj}(I:Inv X pins σ H s)(h:H p=↑(.lst xs))(V:s.heap.get? p=some { cls:=.type "list",data:=.seq its.toArray n })(U:f { cls:=.type "list",data:=.seq its.toArray n }={ cls:=.type "list",data:=.seq its'.toArray D })(r:aP ys its')(Y:ys.length<=sizeLine)(t:Nat) :
  Inv X pins σ (aV H p (.lst ys)) { s with heap:=s.heap.update p f,toks:=t }:=by
 have e:(s.heap.update p f).get? p=some { cls:=.type "list",data:=.seq its'.toArray D }:=by
  rw[iw f V (by rw[U] <;> rfl),U]
 refine I.write (x:=p) (e:=p) (by rw[h];trivial) (.inl rfl) (λb u Z q=>(dw _ _ (Ne.symm Z)).trans q) ⟨_,e⟩ ?_;exact⟨Y,its',D,r,e⟩
def D3:V->V->V->Hp->(Hp->Prop)->Prop:=λo i v H Q=>∃p xs k j,o=.ref p/\i=.int k/\H p=↑(.lst xs)/\dV xs.length k=↑j/\Q (aV H p (.lst (xs.set j v)))
def nH:lL X D3:=by
 intro pins s σ H o i v l m u Q I ro d e h;obtain⟨p,xs,k,j,rfl,rfl,Y,f,q⟩:=h;cases ro;obtain⟨t,rfl⟩:=d;obtain⟨its,n,r,D,g⟩:=I.lst Y;obtain⟨h1,h2,Z,a⟩:=tp f;have U:=r.length;have w:=nF;have b:Inv X pins σ (aV H p (.lst (xs.set j v))) { s with heap:=s.heap.update p (Obj.mapSeq (·.setIfInBounds j u)) } :=
  I.lstUpd Y D (JF its n j u) (r.set e j) (by rw[d9];exact g) s.toks
 by_cases c:0<=k
 ·have V:k.toNat=j:=by
   rw[seqIndex_of c a] at h1;exact cg h1
  exact PySem.W.ki_setAt D c (by omega) (by rw[cb,<-U];exact a) (by rw[V];exact⟨_,b,q⟩)
 ·have V:(k+(its.toArray.size:Int)).toNat=j:=by
   rw[seqIndex_neg (by omega) Z] at h1;rw[cb,<-U];exact cg h1
  exact PySem.W.ki_setBack D (by omega) (by rw[cb,<-U];exact Z) (by omega) (by rw[V];exact⟨_,b,q⟩)
def JG(lo hi:kb)(n:Nat):(sliceBounds lo hi none n).1=((HT.sIx n 0 lo:Nat):Int)/\(sliceBounds lo hi none n).2.1=((HT.sIx n n hi:Nat):Int)/\(sliceBounds lo hi none n).2.2=1:=by
 refine⟨?_,?_,rfl⟩
 ·cases lo with
  |none=>simp[sliceBounds,HT.sIx] |some i =>
    simp only[sliceBounds,HT.sIx,Option.getD_none,show(1:Int) > 0 by decide,dh];by_cases h:i<0
    ·simp only[h,dh] <;> omega
    ·simp only[h,f8] <;> omega
 ·cases hi with
  |none=>simp[sliceBounds,HT.sIx] |some i =>
    simp only[sliceBounds,HT.sIx,Option.getD_none,show(1:Int) > 0 by decide,dh];by_cases h:i<0
    ·simp only[h,dh] <;> omega
    ·simp only[h,f8] <;> omega
def JH(its:h7)(lo hi:kb):slicePick its.toArray lo hi none=((its.drop (HT.sIx its.length 0 lo)).take (HT.sIx its.length its.length hi-HT.sIx its.length 0 lo)).toArray:=by
 obtain⟨h1,h2,D⟩:=JG lo hi its.toArray.size;unfold slicePick;rw[h1,h2,D];simp only[sliceRange_one,pick_run,cb] <;> rfl
def yI(K:kf):V->kb->kb->Hp->VK->Prop:=λx lo hi H Q=>∃a xs,x=.ref a/\dI K H a xs/\∀p,H p=none->Q (.ref p) (aV H p (.lst (jA xs lo hi)))
def JI:Dy X (yI X.K):=by
 intro pins s σ H x v e f lo hi sl Q I V Y pl Z h;obtain⟨a,xs,rfl,c,q⟩:=h;cases V;obtain⟨its,r,U,d⟩:=I.list c;have D:=r.length;refine⟨"list",_,slot_list_getitem.lookup,U.isList.typeIs,?_⟩;refine wpAny_getItem_list_slice U.isList Y pl Z .none ⋯ ?_ (by rw[cb] <;> omega);rw[JH,<-D];refine⟨.ref s.heap.objs.size,_,I.laid (t':=s.toks) (o:=.lst (jA xs lo hi)) (λb g q=>au _ q) (b9 _) ?_,rfl,q _ (I.hok.fresh (b9 _))⟩;exact⟨d7 (JB xs lo hi) d,_,0,(r.drop (HT.sIx xs.length 0 lo)).take (HT.sIx xs.length xs.length hi-HT.sIx xs.length 0 lo),db _ rfl⟩
def yJ:t9 X (.builtin "len") (λxs H Q=>∃p ys,xs=[.ref p]/\(dI X.K H p ys\/eX X.K H p ys)/\Q ↥ys.length H):=by
 intro pins s σ H xs us Q I r h;obtain⟨p,ys,rfl,hq,q⟩:=h;obtain⟨u,rfl,V⟩:=yx r;cases V;have Z:=nF;rcases hq with hq |hq
 ·obtain⟨its,U,pl,Y⟩:=I.list hq
  have D:=U.length;exact Calls.call_len_list pl.isList (by simp only[cb] <;> omega) ⟨.int ys.length,H,I.tok _,⟨s.toks+1,by rw[cb,D]⟩,q⟩
 ·obtain⟨its,U,pl,Y⟩:=I.tuple hq
  have D:=U.length;exact len_tuple pl (by simp only[cb] <;> omega) ⟨.int ys.length,H,I.tok _,⟨s.toks+1,by rw[cb,D]⟩,q⟩
def JJ:t9 X (.type "list") (λxs H Q=>∃p ys,xs=[.ref p]/\(dI X.K H p ys\/eX X.K H p ys)/\∀l,H l=none->Q (.ref l) (aV H l (.lst ys))):=by
 intro pins s σ H xs us Q I r h;obtain⟨p,ys,rfl,hq,q⟩:=h;obtain⟨u,rfl,d⟩:=yx r;cases d;have V:∀(its:h7),aP ys its->ys.length<=sizeLine->∀(h':Heap) (D:Nat),(∀b o',s.heap.get? b=↑o'->h'.get? b=↑o') ->
   h'.get? s.heap.objs.size=some { cls:=.type "list",dict:=none,data:=.seq its.toArray D,slots:=#[] }->EP X pins σ Q (.ref s.heap.objs.size) { s with heap:=h' }:=λits U Y h' D kp e =>
  ⟨.ref s.heap.objs.size,_,I.laid (t':=s.toks) kp (b9 _) (show bP X.prog X.w _ h' _ (.lst ys) from⟨Y,its,D,U,e⟩),rfl,q _ (I.hok.fresh (b9 _))⟩
 rcases hq with hq |hq
 ·obtain⟨its,U,pl,Y⟩:=I.list hq
  have Z:=U.length;obtain⟨o,a,c,n,hd⟩:=pl.isList;exact call_list_seq p (.inl rfl) a c hd (λh' D kp e=>V its U Y h' D kp e) (by simp only[cb] <;> omega)
 ·obtain⟨its,U,pl,Y⟩:=I.tuple hq
  have Z:=U.length;obtain⟨o,a,c,n,hd⟩:=pl;exact call_list_seq p (.inr rfl) a c hd (λh' D kp e=>V its U Y h' D kp e) (by simp only[cb] <;> omega)
def JL:t9 X (.type "tuple") (λxs H Q=>∃p ys,xs=[.ref p]/\((dI X.K H p ys/\∀l,H l=none->Q (.ref l) (aV H l (.tup ys)))\/(eX X.K H p ys/\Q (.ref p) H))):=by
 intro pins s σ H xs us Q I r h;obtain⟨p,ys,rfl,h⟩:=h;obtain⟨u,rfl,a⟩:=yx r;cases a;rcases h with⟨D,q⟩ | ⟨D,q⟩
 ·obtain⟨its,U,pl,V⟩:=I.list D
  have Y:=U.length;refine call_tuple_list pl.isList (λh' kp=>?_) (by simp only[cb] <;> omega);have Z:Inv X pins σ H { s with heap:=h' }:=I.kept (t':=s.toks) kp;have c:Inv X pins σ (aV H h'.objs.size (.tup ys)) { s with heap:=h'.push { cls:=.type "tuple",data:=.seq its.toArray } } :=
   Z.laid (t':=s.toks) (λb o e=>au _ e) (b9 _) (show bP X.prog X.w _ _ _ (.tup ys) from⟨V,its,U,IsTup.new _ _⟩)
  exact⟨.ref h'.objs.size,_,c,rfl,q _ (Z.hok.fresh (b9 _))⟩
 ·obtain⟨its,U,pl,V⟩:=I.tuple D
  exact call_tuple_same pl ⟨.ref p,H,I,rfl,q⟩
def yK(K:kf)(T:String)(x:V)(H:Hp):Prop:=match x with
 | .str _=>T = "str" | .int _=>T = "int" | .ref p=>(T = "list"/\∃xs,dI K H p xs)\/(T = "tuple"/\∃o,K.lookup p=↑o/\o.cls=.type "tuple"/\o.dict=none) \/
    (T = "dict"/\((∃kvs,H p=↑(.dK kvs))\/∃kvs,H p=↑(.dT kvs)))\/(T = "set"/\∃S n,H p=↑(.set S n))
 |_=>False
variable{T:String}{x:V}
def D4{v:Value}(I:Inv X pins σ H s)(r:RelV x v)(ty:yK X.K T x H) :
  s.TypeIs v T/\∀a,v=.ref a->∃V,s.heap.get? a=↑V/\V.dict=none:=by
 cases x with
 |str z =>
   obtain⟨t,rfl⟩:=r;cases (show T = "str" from ty);exact⟨typeIs_str s z t,λ_ e=>nomatch e⟩
 |int i =>
   obtain⟨t,rfl⟩:=r;cases (show T = "int" from ty);exact⟨typeIs_int s i t,λ_ e=>nomatch e⟩
 |ref p =>
   cases r;rcases ty with⟨rfl,xs,Y⟩ | ⟨rfl,o,D,hc,hd⟩ | ⟨rfl,D⟩ | ⟨rfl,S,n,D⟩
   ·obtain⟨its,_,pl,_⟩:=I.list Y
    refine⟨pl.isList.typeIs,λa e=>?_⟩;cases e;obtain⟨o,n,e,c,hd,_⟩:=pl;exact⟨o,e,hd⟩
   ·refine⟨⟨o,I.kIn p o D,hc⟩,λa e=>?_⟩
    cases e;exact⟨o,I.kIn _ o D,hd⟩
   ·have z:∃o,s.heap.get? p=↑o/\o.ExactDict:=by
     rcases D with⟨kvs,D⟩ | ⟨kvs,D⟩
     ·obtain⟨_,_,_,_,o,_,_,e,ex,_⟩:=I.hok p _ D
      exact⟨o,e,ex⟩
     ·obtain⟨_,_,_,_,o,_,_,e,ex,_⟩:=I.hok p _ D
      exact⟨o,e,ex⟩
    obtain⟨o,e,ex⟩:=z;refine⟨⟨o,e,ex.1⟩,λa U=>?_⟩;cases U;exact⟨o,e,ex.2.1⟩
   ·obtain⟨o,_,_,_,e,ex,_⟩:=I.hok p _ D
    refine⟨⟨o,e,ex.1⟩,λa U=>?_⟩;cases U;exact⟨o,e,ex.2.1⟩
 |_=>exact False.elim ty
def yL(K:kf)(T:String)(r:V->k6->Hp->VK->Prop)(to:TE):TE:=λσ H Q=>to σ H λx H1=>yK K T x H1/\r x [] H1 Q
def JM(K:kf)(T:String)(r:V->k6->Hp->VK->Prop)(to:TE)(t:TA):TE:=λσ H Q=>to σ H λx H1=>yK K T x H1/\t σ H1 λxs H2=>r x xs H2 Q
variable{r:V->k6->Hp->VK->Prop}{o:Expr}{to:TE}{name:Str}{apos cpos:Pos}{id:String}
def D5(b:PlainAttrs T)(V:Slot T name id)(Y:typeOf (.builtin id)=pure (.type "method_descriptor"))(c:D0 X id r)(d:PE X o to)(D:‹attributeBase o name X.env (eval o X.env)=eval o X.env›)(U:‹(apos.endLine==cpos.line)=true›):PE X (.Call (.Attribute o name apos) [] [] cpos) (yL X.K T r to):=by
 intro pins s σ H Q I h;refine wpAny_Call_method0_late D U (bI (d pins s σ H _ I h) λv e f=>?_);obtain⟨x,H1,Z,a,ty,g⟩:=f;obtain⟨h1,h2⟩:=D4 Z a ty;exact⟨T,id,b,V,Y,h1,h2,Calls.callWith_builtin rfl (PySem.evalArgs_none (c pins e σ H1 x [] v [] Q Z a .nil g))⟩
variable{es:i0}{t:TA}
def pX(d:PlainAttrs T)(Y:Slot T name id)(a:typeOf (.builtin id)=pure (.type "method_descriptor"))(f:D0 X id r)(g:PE X o to)(i:PA X (e::es) t)(U:‹attributeBase o name X.env (eval o X.env)=eval o X.env›)(Z:((backTo cpos (starEach (e::es) X.env)).all (λx=>!x.1) && (backToKw cpos (keywordEach [] X.env)).all (λx=>x.1.isSome)
   && decide ((e::es).length+([]:List Keyword).length+(if ([]:List Keyword).isEmpty then 0 else 1)<30))=true:=by rfl)(V:‹(apos.endLine==cpos.line)=true›)(j:‹starEach (e::es) X.env=(false,eval e X.env)::starEach es X.env›)(D:‹(backTo cpos (starEach es X.env)).any (·.1)=false›) :
  PE X (.Call (.Attribute o name apos) (e::es) [] cpos) (JM X.K T r to t):=by
 intro pins s σ H Q I h;refine wpAny_Call_method_late U Z V rfl (bI (g pins s σ H _ I h) λv k l=>?_);obtain⟨x,H1,b,c,ty,m⟩:=l;obtain⟨h1,h2⟩:=D4 b c ty;refine⟨T,id,d,Y,a,h1,h2,?_⟩;have hA:=i cpos pins k σ H1 _ b m;rw[j] at hA ⊢;refine Calls.callWith_builtin (by show(false || (backTo cpos (starEach es X.env)).any (·.1))=false;rw[D] <;> rfl) (Calls.evalArgs_plain ?_);exact bI hA λus s2 ⟨vs,H2,I2,r2,q2⟩=>f pins s2 σ H2 x vs v us Q I2 c r2 q2
def pY(X:Cx)(id:String)(r:V->k6->Hp->VK->Prop):Prop :=
 ∀(pins:kv) (s:Shared) (σ:St) (H:Hp) (x:V) (xs:k6) (v:Value) (us:h7) (Q:VK),Inv X pins σ H s->RelV x v->aP xs us->r x xs H Q ->
  wpAny (model X.prog X.w) X.A (call (.builtin id) (v::us)) (EP X pins σ Q) X.xe s
def yM:k6->h7->Prop
 | [],us=>us=[] |x::xs,us=>∃u t,us=u::t/\RelV x u/\aP xs t
variable{us:h7}
def aP.inv(h:aP xs us):yM xs us:=by
 cases h with
 |nil=>exact rfl |cons r t=>exact⟨_,_,rfl,r,t⟩
def aP.one(h:aP [x] us):∃u,us=[u]/\RelV x u:=by
 obtain⟨u,t,e,r,q⟩:=h.inv;exact⟨u,(show t=[] from q.inv) ▸ e,r⟩
def aP.two{y:V}(h:aP [x,y] us):∃u v,us=[u,v]/\RelV x u/\RelV y v:=by
 obtain⟨u,t,e,r,q⟩:=h.inv;obtain⟨v,f,q⟩:=q.one;exact⟨u,v,f ▸ e,r,q⟩
def aP.zero:∀ {us:h7},aP [] us->us=[]
 |_,.nil=>rfl
def aP.dropLast(h:aP xs us):aP xs.dropLast us.dropLast:=by
 induction h with
 |nil=>exact .nil |cons r t ih =>
   cases t with
   |nil=>exact .nil |cons q t'=>exact .cons r ih
def aP.eraseIdx:∀ {xs:k6} {us:h7} (i:Nat),aP xs us->aP (xs.eraseIdx i) (us.eraseIdx i)
 |_,_,_,.nil=>.nil |_,_,0,.cons _ t=>t |_,_,i+1,.cons r t=>.cons r (aP.eraseIdx i t)
def aP.rep{xs:k6}{us:h7}(h:aP xs us):∀k:Nat,aP (List.replicate k xs).flatten (List.replicate k us).flatten
 |0=>.nil |k+1=>by
   rw[km,km,df,df];exact aP.append h (aP.rep h k)
def JN(l:List α):l.eraseIdx (l.length-1)=l.dropLast:=by
 induction l with
 |nil=>rfl |cons a r ih =>
   cases r with
   |nil=>rfl |cons b r =>
     have e:(a::b::r).length-1=((b::r).length-1)+1:=by
      have h1:(a::b::r).length=r.length+2:=rfl;have h2:(b::r).length=r.length+1:=rfl;omega
     rw[e,List.eraseIdx_cons_succ,ih];all_goals rfl
def D6{α:Type}:∀(l:List α) (i:Nat),(l.eraseIdx i).length<=l.length
 | [],_=>b9 _ |_::_,0=>qe _ |_::r,i+1=>Nat.succ_le_succ (D6 r i)
def D7(its:h7):∀(k:Nat) (D:h7),
  List.foldl (λI U=>I++U) D.toArray (List.replicate k its.toArray)=(D++(List.replicate k its).flatten).toArray
 |0,D=>by simp |k+1,D=>by
   have e:D.toArray++its.toArray=(D++its).toArray:=by simp
   have V:(D++its)++(List.replicate k its).flatten=D++(List.replicate (k+1) its).flatten:=by
    rw[km,df,cx]
   rw[<-V,<-D7 its k (D++its),<-e,km,List.foldl_cons]
variable{t':Nat}{l:Addr}
def Inv.lset{f:k4->k4}(I:Inv X pins σ H s)(D:H l=↑(.lst xs))(e:s.heap.get? l=some { cls:=.type "list",data:=.seq its.toArray n })(U:f its.toArray=its'.toArray)(V:aP ys its')(Y:ys.length<=sizeLine) :
  Inv X pins σ (aV H l (.lst ys)) { s with heap:=s.heap.update l (Obj.mapSeq f),toks:=t' }:=by
 have q:=PySem.IsL.update e f;rw[U] at q;refine I.write (x:=l) (e:=l) (by rw[D];exact trivial) (.inl rfl) (λb u Z a=>(dw s.heap (Obj.mapSeq f) (Ne.symm Z)).trans a) ⟨_,q⟩ ?_;exact⟨Y,its',_,V,q⟩
def Inv.lnew(I:Inv X pins σ H s)(D:aP ys its)(U:ys.length<=sizeLine) :
  Inv X pins σ (aV H s.heap.objs.size (.lst ys)) { s with heap:=s.heap.push { cls:=.type "list",data:=.seq its.toArray },toks:=t' } :=
 I.laid (λ_ _ q=>au _ q) (b9 _) ⟨U,its,0,D,db _ rfl⟩
def Inv.fresh(I:Inv X pins σ H s):H s.heap.objs.size=none:=I.hok.fresh (b9 _)
def Inv.lstM(I:Inv X pins σ H s)(D:H l=↑(.lst xs)):xs.length<=sizeLine/\∃(its:h7) (n:Nat),aP xs its/\xs.length=its.length/\s.heap.get? l=some { cls:=.type "list",data:=.seq its.toArray n }:=by
 obtain⟨z,its,n,r,e⟩:=I.hok l _ D;exact⟨z,its,n,r,r.length,e⟩
def D8(h:n<=sizeLine):Builtin.List.listTooLong n=false:=by
 unfold Builtin.List.listTooLong;exact em (by omega)
def JO:V->k6->Hp->VK->Prop:=λx vs H Q=>∃l xs y,x=.ref l/\vs=[y]/\H l=↑(.lst xs)/\xs.length<sizeLine/\Q .non (aV H l (.lst (xs++[y])))
theorem D9:pY X "list.append" JO:=by
 intro pins s σ H x vs v us Q I U V h;obtain⟨l,xs,y,rfl,rfl,D,Z,q⟩:=h;cases U;obtain⟨u,rfl,Y⟩:=V.one;obtain⟨z,its,n,r,a,e⟩:=I.lstM D;refine nr F.slot_list_append ⟨_,e,rfl⟩ F.entry_list_append (F.args_list_append_2 _ _) (PySem.list_append l its.toArray n u (by rw[cb];omega)) ⟨e,?_⟩;refine⟨.non,_,I.lset (its':=its++[u]) D e ⋯ (r.append (.cons Y .nil)) ?_,rfl,q⟩;rw[ak,ft];omega
def JP:V->k6->Hp->VK->Prop:=λx vs H Q=>∃l b xs D,x=.ref l/\vs=[.ref b]/\H l=↑(.lst xs)/\H b=↑(.lst D)/\xs.length+D.length<=sizeLine/\Q .non (aV H l (.lst (xs++D)))
theorem JQ:pY X "list.extend" JP:=by
 intro pins s σ H x vs v us Q I Z a h;obtain⟨l,b,xs,k,rfl,rfl,Y,c,m,q⟩:=h;cases Z;obtain⟨u,rfl,d⟩:=a.one;cases d;obtain⟨z,its,n,r,o,e⟩:=I.lstM Y;obtain⟨p,D,f,g,i,j⟩:=I.lstM c;have V:its.toArray.size+D.toArray.size<=sizeLine:=by rw[cb,cb];omega
 have U:¬(!its.toArray.isEmpty && Builtin.List.listTooLong (its.toArray.size+D.toArray.size))=true:=by
  rw[D8 V,Bool.and_false];exact dq
 refine nr F.slot_list_extend ⟨_,e,rfl⟩ F.entry_list_extend (F.args_list_extend_2 _ _)
  (AutoSeq1.list_extend_list_list_0 l its.toArray n b D.toArray f U (by rw[cb];omega) (by omega)) ⟨e,j,?_⟩
 refine⟨.non,_,I.lset (its':=its++D) Y e ⋯ (r.append g) ?_,rfl,q⟩;rw[ak];omega
def yN:V->k6->Hp->VK->Prop:=λx vs H Q=>∃l xs y,x=.ref l/\vs=[]/\H l=↑(.lst xs)/\xs[xs.length-1]?=↑y/\Q y (aV H l (.lst xs.dropLast))
theorem DA:pY X "list.pop" yN:=by
 intro pins s σ H x vs v us Q I Y Z h;obtain⟨l,xs,y,rfl,rfl,V,a,q⟩:=h;cases Y;have D:=Z.zero;subst D;obtain⟨z,its,n,r,b,e⟩:=I.lstM V;obtain⟨u,c,d⟩:=r.get a;have U:its.toArray[its.toArray.size-1]?=↑u:=by
  show its.toArray[its.length-1]?=↑u;rw[<-Array.getElem?_toList,<-b];exact c
 refine nr F.slot_list_pop ⟨_,e,rfl⟩ F.entry_list_pop (F.args_list_pop_1 _) (MeetsSeq.list_pop_last l its.toArray n u U (by rw[cb];omega)) ⟨e,?_⟩;refine⟨y,_,I.lset (its':=its.dropLast) V e ?_ r.dropLast ?_,d,q⟩
 ·show its.toArray.eraseIdxIfInBounds (its.toArray.size-1)=its.dropLast.toArray
  rw[cb,vd,JN]
 ·rw[qf]
  omega
def JR:V->k6->Hp->VK->Prop:=λx vs H Q=>∃l xs i k y,x=.ref l/\vs=[↥i]/\H l=↑(.lst xs)/\-(2 ^ 63)<=i/\i<2 ^ 63/\seqIndex? i xs.length=↑k/\xs[k]?=↑y/\Q y (aV H l (.lst (xs.eraseIdx k)))
theorem JS:pY X "list.pop" JR:=by
 intro pins s σ H x vs v us Q I V Y h;obtain⟨l,xs,i,k,y,rfl,rfl,U,h1,h2,Z,a,q⟩:=h;cases V;obtain⟨u,rfl,b⟩:=Y.one;obtain⟨t,rfl⟩:=b;obtain⟨z,its,n,r,c,e⟩:=I.lstM U;obtain⟨w,d,D⟩:=r.get a;refine nr F.slot_list_pop ⟨_,e,rfl⟩ F.entry_list_pop (F.args_list_pop_2 _ _)
  (MeetsSeq.list_pop_at l its.toArray n i t k w (fitsIndex_both h1 h2) (by rw[cb,<-c];exact Z) (by rw[<-Array.getElem?_toList];exact d) (by rw[cb];omega)) ⟨e,?_⟩
 refine⟨y,_,I.lset (its':=its.eraseIdx k) U e ?_ (r.eraseIdx k) ?_,D,q⟩
 ·show its.toArray.eraseIdxIfInBounds k=(its.eraseIdx k).toArray
  rw[vd]
 ·have:=D6 xs k
  omega
def yO:R2:=λx y H Q=>∃l k xs,x=.ref l/\y=.int k/\H l=↑(.lst xs)/\-(2 ^ 63)<=k/\k<2 ^ 63/\xs.length*k.toNat<=sizeLine /\
 ∀p,H p=none->Q (.ref p) (aV H p (.lst (List.replicate k.toNat xs).flatten))
def JT(xs:List α)(k:Nat):(List.replicate k xs).flatten.length=k*xs.length:=by
 induction k with
 |zero=>simp |succ k ih=>rw[km,df,ak,ih,Nat.succ_mul,Nat.add_comm]
theorem JU:gA X (binaryOp .Mult) yO:=by
 intro pins s σ H x y v u Q I g i h;obtain⟨l,k,xs,rfl,rfl,j,h1,h2,f,q⟩:=h;cases g;obtain⟨t,rfl⟩:=i;obtain⟨z,its,n,r,o,e⟩:=I.lstM j;have V:its.toArray.size*k.toNat<=sizeLine:=by rw[cb,<-o];exact f
 have Y:¬its.toArray.size*k.toNat > (2 ^ 63-1) / 8:=by
  have:(sizeLine:Nat)<=(2 ^ 63-1) / 8:=by decide
  omega
 have Z:¬(!Builtin.List.listFitsIndex k)=true:=by
  rw[fitsIndex_both h1 h2];exact dq
 have D:¬Builtin.List.listTooLong (its.toArray.size*k.toNat)=true:=by
  rw[D8 V];exact dq
 have b:List.foldl (λc d=>c++d) #[] (List.replicate (if its.toArray.isEmpty=true then 0 else k.toNat) its.toArray)=(List.replicate k.toNat its).flatten.toArray:=by
  have p:∀m:Nat,List.foldl (λc d=>c++d) #[] (List.replicate m its.toArray)=(List.replicate m its).flatten.toArray:=λm=>by
   have:=D7 its m [];rw[l9] at this;exact this
  rw[p];cases its with
  |nil=>simp |cons a r'=>rw[b7 ⋯]
 refine wpAny_binaryOp_repeat_ref (T:="list") (U:="int") (by decide) ⟨_,e,rfl⟩ (λs'=>typeIs_int s' k t) noFill_list_mul F.fills_int_mul F.slot_int_rmul repeat_list F.slot_int_index.lookup
  (nr F.slot_int_rmul (typeIs_int s k t) F.entry_int_rmul (F.args_int_rmul_2 _ _) (int___rmul___int_list k t l its.toArray n)
    ⟨e,rfl,⟨_,e,rfl⟩,nr F.slot_list_mul ⟨_,e,rfl⟩ F.entry_list_mul (F.args_list_mul_2 _ _) (AutoListH.list___mul___list_int_3 l its.toArray n k t Z Y D) ⟨e,?_⟩⟩)
 rw[b];exact⟨.ref _,_,I.lnew (t':=s.toks) (r.rep k.toNat) (by rw[JT,Nat.mul_comm];exact f),rfl,q _ I.fresh⟩
end L2
namespace Att
open PySem PySem.W PySem.Calls PyProof.Rows
variable{P:Params}{h:Heap}
def JW:∀(D:ik) (vs:h7),WellAll P h vs (D.map WData.int)->IntsAre vs D:=by
 intro D;induction D with
 |nil =>
   intro vs w;rw[dm] at w;cases w;exact .nil
 |cons n D ih =>
   intro vs w;rw[bq] at w;cases w with
   |cons a b =>
     cases a;exact .cons _ _ (ih _ b)
variable{l:OpenLaw}{n:Nat}
def JY(f:l.most=↑n){args:List WData}{I:h7}(U:l.row.toRowW.claim.pre args=true)(b:WellAll P h I args) :
  ∃a vs D,I=[Value.ref a]/\args=[WData.list (D.map WData.int)]/\h.get? a=some { cls:=.type "list",data:=.seq vs.toArray }/\IntsAre vs D/\D.length<=n:=by
 have c:WShape.hasAll [] args [.list .int]=true:=(pre_splitW U).1;have e:l.pre.holds [] { args:=args }=true:=(pre_splitW U).2;obtain⟨d,r,rfl,h1,h2⟩:=hasAllW_cons c;obtain rfl:=hasAllW_nil h2;obtain⟨xs,rfl,g⟩:=hasW_list h1;obtain⟨D,rfl⟩:=items_int g;have V:D.length<=n:=by
  unfold OpenLaw.pre at e;have Y:(WTm.not (.lt (.lit ↥(n:Int)) (.len (.arg 0)))).holds [] { args:=[.list (D.map .int)] }=true:=by
   have Y:=(holds_andW e).1;rw[f] at Y;exact Y
  have Z:=condW_of Y (w_not (w_lt w_lit (w_len_list (w_arg rfl))));rw[ah] at Z;refine js λq=>?_;have i:(n:Int)<((D.length:Nat):Int):=by omega
  first
   | (rw[ke i] at Z;exact absurd Z (by decide))
   | (simp at Z;omega)
 cases b with
 |cons w1 w2 =>
   cases w2;cases w1 with
   |list ho hall=>exact⟨_,_,D,rfl,rfl,ho,JW D _ hall,V⟩
def JZ(l:OpenLaw)(args:List WData):l.row.toRowW.claim.post args (.bool true) args=true :=
 postW_of (r:=l.row.toRowW) (X:=(true==true))
  (show WShape.has [] (.bool true) .bool=true by first |rfl |decide |simp[WShape.has,WShape.arms,WShape.armsAll])
  (show(WTm.eq .res (.lit (.bool true))).value [] { args:=args,res:=↑(.bool true),after:=args }=↑(.bool (true==true)) from w_eq_bool (w_res rfl) w_lit) rfl
def attach_call{q:Program}{I:h6}{s:(Str->h8)->Heap->Prop}{t:World->Heap->Prop}{d:DefRec}(y:l.most=↑n)(h:d.params.defaults=[])(call:∀(w:World) (s₀ D:Shared) (mg i:Str->h8) (Z:Addr) (o:Obj) (j cd U:Value) (a:Addr) (vs:h7) (g:ik),
   Ground q I [] s w s₀ mg i D.heap->t w D.heap ->
   D.heap.get? Z=↑o->o.data=.func (docDef d.name d.params d.body d.scope j cd U)->D.heap.CodeRec cd d.name->mg d.name=↑(.ref Z) ->
   D.heap.get? a=some { cls:=.type "list",data:=.seq vs.toArray }->IntsAre vs g->g.length<=n->D.gens=#[] ->
   codeAny (model l.prog w) callerA (.call (.ref Z) ⟨[.ref a],[]⟩) (λr s'=>r=.ok (.ret (.bool true))/\OldK D.heap s'.heap/\s'.os=D.os/\AllBare s'.gens) D) :
  WalkO q I s t l.row.toRowW d [] (λf vs=>PySem.call f vs):=by
 intro w s₀ D mg i G Y Z o j cd U z kV A hd k u m B args v as b x C p E;obtain rfl:z=.none:=Dflts.none u h;obtain rfl:kV=.none:=Dflts.noKw u;obtain⟨a,vs,g,rfl,rfl,c,V,e⟩:=JY y b p;refine enter_call (j5 (call w s₀ D mg i Z o j cd U a vs g G Y A (fd_plain hd) k m c V e B) λr s' F=>?_);obtain⟨rfl,h2,H,J⟩:=F;exact⟨.inl ⟨.bool true,.bool true,[],rfl,λ_=>rfl,.bool true,JZ l _,λ_=>⟨List.Pairwise.nil,λ_ K=>(nomatch K)⟩⟩,h2,H,J⟩
end Att
namespace L2
open PySem PySem.Spec PyProof.Rows
def DC:∀ {vs:h7} {D:ik},IntsAre vs D->aP (D.map V.int) vs
 |_,_,.nil=>.nil |_,_,.cons n t h=>.cons ⟨t,rfl⟩ (DC h)
def lR(H:Hp):Prop:=∀b,H b=none\/∃o xs,H b=↑(.frz o (.lst xs))
variable{w:World}{K:kf}{k:Nat}{a:Addr}{x:Str}{vs:h7}
def J_{P:Program}{mg E:Str->h8}{CX:iP}{G:Addr}{fd:FuncData}{sp:Sp}{D:Shared}{f:ik}(O:K.In D.heap)(g:D.heap.Ns mainGlobals mg)(U:D.heap.Ns builtinsNs E)(J:∀x:Str,x ≠ "__name__"->E x=bootBuiltins x)(i:D.heap.NoLimit)(W:D.gens=#[])(C:D.heap.get? a=some { cls:=.type "list",data:=.seq vs.toArray })(hi:IntsAre vs f)(Q:f.length<=sizeLine)(X:bC k callerA)(F:∀base:Heap,K.In base->base.Ns mainGlobals mg->cK P w K mg base CX k G fd [x] sp)(c:∀(s:Shared) (u:Value),BindsTo s fd ⟨[u],[]⟩ [(x,u)])(L:∀H:Hp,lR H->dI K H a (f.map V.int)->sp [.ref a] H (λv _=>v=.bl true) λ_ _ _=>False)(M:∀H e s',CX [] H D (λ_ _ _=>False) e s'->False) :
  codeAny (model P w) callerA (.call (.ref G) ⟨[.ref a],[]⟩) (λr s'=>r=.ok (.ret (.bool true))/\OldK D.heap s'.heap/\s'.os=D.os/\AllBare s'.gens) D:=by
 have R:=DC hi;have j:=hi.length;have Z:∀H:Hp,lR H->dI K H a (f.map V.int)->e_ P w H D.heap->(∀b,H b≠none->b=a)->(H a≠none->K.lookup a=none) ->
   codeAny (model P w) callerA (.call (.ref G) ⟨[.ref a],[]⟩) (λr s'=>r=.ok (.ret (.bool true))/\OldK D.heap s'.heap/\s'.os=D.os/\AllBare s'.gens) D:=by
  intro H S hS l hA hK;have I:∀ {b:Addr} {o:Obj},D.heap.get? b=↑o->H b=none->(gW D.heap H).get? b=↑o:=λe n=>Ib e n;have N:∀ {b:Addr} {o:Obj} {es:Array DictEntry} {p:Nat},D.heap.get? b=↑o->o.data=.dict es p->H b=none:=λ{b o es p} e d=>by
   cases q:H b with
   |none=>rfl |some u =>
     have e':b=a:=hA b (by rw[q];simp);subst e';rw[C] at e;cases e;have d':Data.seq vs.toArray _=Data.dict es p:=d;cases d'
  have Y:∀ {b:Addr} {m:Str->h8},D.heap.Ns b m->(gW D.heap H).Ns b m:=λ{b m} ⟨o,es,p,e,d,r⟩=>⟨o,es,p,I e (N e d),d,r⟩;have t:K.In (gW D.heap H):=λb o e=>I (O b o e) (by
   cases q:H b with
   |none=>rfl |some u =>
     have e':b=a:=hA b (by rw[q];simp);subst e';rw[hK (by rw[q];simp)] at e;cases e)
  have hM:Mod K mg (gW D.heap H):=⟨t,Y g,⟨E,Y U,J⟩,let ⟨mc,h1,h2⟩:=i;⟨mc,Y h1,h2⟩⟩;have e0:gX P w K mg (gW D.heap H) callerA [] D H:=⟨rfl,hM,λb o e=>Ic e,Nat.le_of_eq (Ia _ _),trivial,λb U=>absurd (show b∈([]:ia) from U) ⋯,l,.of_eq W⟩;refine j5 ((F _ t (Y g)).run callerA [] D H ⟨[.ref a],[]⟩ [.ref a] [.ref a] _ _ X e0 (c D (.ref a)) (.cons rfl .nil) (L H S hS)) λr s' h=>?_;cases r with
  |error e=>exact(M H e s' h).elim |ok fl =>
    cases fl with
    |next=>exact False.elim h |brk=>exact False.elim h |cont=>exact False.elim h |ret u =>
      obtain⟨v,H',os,y,un,A,r',q⟩:=h;have q':v=.bl true:=q;subst q';obtain rfl:u=Value.bool true:=r';refine⟨rfl,OldK.of_keep λb o e=>?_,os,y⟩;cases q:H b with
      |none=>exact un.keep b o e q (by intro z;exact absurd (show b∈([]:ia) from z) ⋯) ⋯
      |some u =>
        rcases S b with z | ⟨ob,xs,z⟩
        ·rw[q] at z;cases z
        ·have z2:=un.frzs b ob _ z
         obtain⟨T,_⟩:=l b _ z;obtain⟨e2,_⟩:=A b _ z2;rw[e] at T;cases T;exact e2
 cases hk:K.lookup a with
 |some o =>
   have e:=O a o hk;rw[C] at e;cases e;refine Z (λ_=>none) (λ_=>.inl rfl) (.inr ⟨_,vs.toArray,_,hk,rfl,rfl,rfl,by rw[cb,j];exact Q,by simpa using R⟩) (λb u z=>by have B:(none:Option HO)=↑u:=z;cases B) (λb z=>absurd rfl z) λz=>absurd rfl z
 |none =>
   refine Z (λb=>if b=a then ↑(.frz { cls:=.type "list",data:=.seq vs.toArray } (.lst (f.map V.int))) else none) (λb=>?_) (.inl (.inr ⟨{ cls:=.type "list",data:=.seq vs.toArray },aq rfl⟩)) (λb u z=>?_) (λb z=>?_) λ_=>hk
   ·by_cases U:b=a
    ·exact .inr ⟨_,_,aq U⟩
    ·exact .inl (b7 U)
   ·by_cases U:b=a
    ·have B:=(aq U).symm.trans z
     cases B;subst U;exact⟨C,by rw[ah];exact Q,vs,_,R,C⟩
    ·have B:=(b7 U).symm.trans z
     cases B
   ·by_cases U:b=a
    ·exact U
    ·exact absurd (b7 U) z
variable{l:Addr}{n:Nat}{q:FT}{d:D}
def Ka{l:PySem.W.OpenLaw}{q:Program}{I:h6}{B:(Str->h8)->Heap->Prop}{z:World->Heap->Prop}{d:DefRec}{K:Params->kf}{CX:World->iP}{sp:World->Sp}(C:l.most=↑n)(m:n<=sizeLine)(p:d.params.defaults=[])(E:bC k callerA)(J:∀(w:World) (h:Heap),z w h->(K w.params).In h)(F:∀(w:World) (mg:Str->h8) (i:Addr) (h:Heap),(K w.params).In h->h.Ns mainGlobals mg->mg d.name=↑(.ref i) ->
   ∃fd:FuncData,(∀(s:Shared) (u:Value),BindsTo s fd ⟨[u],[]⟩ [(x,u)]) /\
    ∀base:Heap,(K w.params).In base->base.Ns mainGlobals mg->cK l.prog w (K w.params) mg base (CX w) k i fd [x] (sp w))(r:∀(w:World) (H:Hp) (a:Addr) (j:ik),j.length<=n->lR H->dI (K w.params) H a (j.map V.int)->sp w [.ref a] H (λv _=>v=.bl true) λ_ _ _=>False)(t:∀(w:World) (H:Hp) (s:Shared) (e:Value) (s':Shared),CX w [] H s (λ_ _ _=>False) e s'->False) :
  PySem.W.WalkO q I B z l.row.toRowW d [] (λf vs=>PySem.call f vs):=by
 refine Att.attach_call C p λw s₀ Z mg S i o X cd L a vs j G Y ho hd M y c U D N=>?_;have A:=J w _ Y;obtain⟨fd,O,P⟩:=F w mg i _ A G.T.g y;exact J_ A G.T.g G.T.b G.T.builtins G.T.nolimit N c U (d7 D m) E P O (λH Q R=>r w H a j D Q R) λH e s'=>t w H Z e s'
def ya(s:Stmt):Arguments:=match s with
 | .FunctionDef _ a _ _ _ _ _ _ _ _=>a |_=>{ posonlyargs:=[],args:=[],vararg:=none,kwonlyargs:=[],kw_defaults:=[],kwarg:=none,defaults:=[] }
def pf(s:Stmt):List Stmt:=match s with
 | .FunctionDef _ _ b _ _ _ _ _ _ _=>b |_=>[]
def i9(s:Stmt):Scope:=match s with
 | .FunctionDef _ _ _ _ _ _ sc _ _ _=>sc |_=>{ kind:=.function,names:=[],isGenerator:=false,isCoroutine:=false }
abbrev bQ:iP:=λ_ _ _ _ _ _=>False
abbrev E0:XK:=λ_ _ _=>False
variable{X:Cx}
def yP:yF bQ X E0:=λ_ _ _ _ _ _ _ h=>h.elim
structure h_ (K:kf) (x qual:Str) (st:Stmt) (f:Addr) (fd:FuncData):Prop where
 ex:∃(oc:Value) (od:Option Addr) (kV doc pm:Value) (an:Option Addr) (cdv ct:Value) (osl:Array h8),
  fd=PySem.W.fnOf x qual (ya st) (pf st) (i9 st) .none kV doc pm an cdv ct/\K.lookup f=↑⟨oc,od,.func fd,osl⟩/\PySem.W.codeIn K cdv qual=true
 kp:PySem.W.keepIn K (.ref f)=true
variable{f:FE}
def yQ{qual:Str}{st:Stmt}{f:Addr}{oc:Value}{od an:Option Addr}{osl:Array h8}{kV D I cdv ct:Value}(l:K.lookup f=↑⟨oc,od,.func (PySem.W.fnOf x qual (ya st) (pf st) (i9 st) .none kV D I an cdv ct),osl⟩)(c:PySem.W.codeIn K cdv qual=true)(k:PySem.W.keepIn K (.ref f)=true):h_ K x qual st f (PySem.W.fnOf x qual (ya st) (pf st) (i9 st) .none kV D I an cdv ct):=⟨⟨oc,od,kV,D,I,an,cdv,ct,osl,rfl,l,c⟩,k⟩
variable{A:Around}
def Kb(D:bC k A):A.units+1<cLine:=tj (Nat.add_le_add_left (by decide:1<=64) _) D.units
def bB(H H':Hp):Prop:=∀b o,H b=↑o->H' b=↑o
def bB.refl(H:Hp):bB H H:=λ_ _ h=>h
variable{H H1 H2:Hp}
def bB.trans(a:bB H H1)(b:bB H1 H2):bB H H2:=λc o h=>b c o (a c o h)
variable{H':Hp}
def bB.free(e:bB H H')(h:H' l=Option.none):H l=Option.none:=by
 cases q:H l with
 |none=>rfl |some o =>
   rw[e l o q] at h;cases h
def yR{env:Env}:∀(names:List (Str×NameKind)) (D:List (Str×Addr)),
  (∀y∈names,y.2=.free->∃c,env.cells.lookup y.1=↑c)->(∀y c,D.lookup y=↑c->env.cells.lookup y=↑c) ->
  ∃cl,(forIn names D λ(x:Str×NameKind) (cs:List (Str×Addr))=>if (x.2==NameKind.free)=true then(do let c <-cellOf env x.1;pure (ForInStep.yield ((x.1,c)::cs)):Sem _) else pure (ForInStep.yield cs))=pure cl /\
   (∀y c,cl.lookup y=↑c->env.cells.lookup y=↑c)/\(∀y c,D.lookup y=↑c->∃U,cl.lookup y=↑U)/\∀y∈names,y.2=.free->∃c,cl.lookup y.1=↑c
 | [],D,_,ha=>⟨D,rfl,ha,λy c e=>⟨c,e⟩,λ_ h=>nomatch h⟩ | (n,k)::r,D,hn,ha=>by
   by_cases Y:k=.free
   ·subst Y
    obtain⟨c,a⟩:=hn (n,.free) bi rfl;obtain⟨cl,e,h1,h2,Z⟩:=yR r ((n,c)::D) (λy hy=>hn y (ay _ hy)) (λy U e=>by
     rw[d5] at e;cases hq:y==n with
     |true=>rw[hq] at e;cases e;rw[eq_of_beq hq];exact a
     |false=>rw[hq] at e;exact ha y U e)
    have I:List.lookup n ((n,c)::D)=↑c:=by simp[d5]
    refine⟨cl,?_,h1,λy U e'=>?_,λy hy V=>?_⟩
    ·rw[List.forIn_cons]
     have b:cellOf env n=pure c:=by unfold cellOf;rw[a]
     simp only[beq_self_eq_true,dh,b,pure_bind];exact e
    ·cases hq:y==n with
     |true=>rw[eq_of_beq hq];exact h2 n c I |false=>exact h2 y U (by rw[d5,hq];exact e')
    ·rcases cr.mp hy with rfl |hy
     ·exact h2 n c I
     ·exact Z y hy V
   ·obtain⟨cl,e,h1,h2,Z⟩:=yR r D (λy hy=>hn y (ay _ hy)) ha
    refine⟨cl,?_,h1,h2,λy hy V=>?_⟩
    ·rw[List.forIn_cons]
     have d:(k==NameKind.free)=false:=by cases k <;> first |rfl |exact absurd rfl Y
     simp only[d,cj,f8,pure_bind];exact e
    ·rcases cr.mp hy with rfl |hy
     ·exact absurd V Y
     ·exact Z y hy V
variable{sc:Scope}{env:Env}
def yS(h:∀y∈sc.names,y.2=.free->∃c,env.cells.lookup y.1=↑c) :
  ∃cl,closureFor sc env=pure cl/\(∀y c,cl.lookup y=↑c->env.cells.lookup y=↑c)/\∀y∈sc.names,y.2=.free->∃c,cl.lookup y.1=↑c:=by
 obtain⟨cl,e,h1,_,D⟩:=yR (env:=env) sc.names [] h (λy c e=>by simp at e);refine⟨cl,?_,h1,D⟩;unfold closureFor;rw[show(pure cl:Sem _)=(pure cl >>= λcs=>pure cs) by rw[pure_bind],<-e]
def yT{env:Env}:∀ {names:List (Str×NameKind)} {x:Str} {k:NameKind},
  (names.map λ(n,k)=>if (k==NameKind.free && env.scope.kind==.function && env.kindOf n==some .cell) then(n,NameKind.cell) else(n,k)).lookup x=↑k ->
  names.lookup x=↑k\/(names.lookup x=some .free/\k=.cell)
 | (n,k0)::r,x,k,h=>by
   have I:=@yT env r x k;have h:List.lookup x ((if (k0==NameKind.free && env.scope.kind==.function && env.kindOf n==some .cell)=true then(n,NameKind.cell) else(n,k0))::_)=_:=h;cases hx:x==n with
   |true =>
     by_cases D:(k0==NameKind.free && env.scope.kind==.function && env.kindOf n==some .cell)=true
     ·rw[aq D] at h
      simp only[d5,hx] at h ⊢;simp only[fo,mw] at D;cases h;exact .inr ⟨by rw[D.1.1],rfl⟩
     ·rw[b7 D] at h
      simp only[d5,hx] at h ⊢;exact .inl h
   |false =>
     by_cases D:(k0==NameKind.free && env.scope.kind==.function && env.kindOf n==some .cell)=true
     ·rw[aq D] at h
      simp only[d5,hx] at h ⊢;exact I h
     ·rw[b7 D] at h
      simp only[d5,hx] at h ⊢;exact I h
def nI{env:Env}:∀ {names:List (Str×NameKind)} {x:Str},names.lookup x=some .free ->
  (names.map λ(n,k)=>if (k==NameKind.free && env.scope.kind==.function && env.kindOf n==some .cell) then(n,NameKind.cell) else(n,k)).lookup x=some .cell \/
  (names.map λ(n,k)=>if (k==NameKind.free && env.scope.kind==.function && env.kindOf n==some .cell) then(n,NameKind.cell) else(n,k)).lookup x=some .free
 | (n,k0)::r,x,h=>by
   have I:=@nI env r x;show List.lookup x ((if (k0==NameKind.free && env.scope.kind==.function && env.kindOf n==some .cell)=true then(n,NameKind.cell) else(n,k0))::_)=_\/List.lookup x ((if (k0==NameKind.free && env.scope.kind==.function && env.kindOf n==some .cell)=true then(n,NameKind.cell) else(n,k0))::_)=_;cases hx:x==n with
   |true =>
     simp only[d5,hx] at h;cases h;by_cases D:(NameKind.free==NameKind.free && env.scope.kind==.function && env.kindOf n==some .cell)=true
     ·rw[aq D];simp only[d5,hx];exact .inl trivial
     ·rw[b7 D];simp only[d5,hx];exact .inr trivial
   |false =>
     simp only[d5,hx] at h;by_cases D:(k0==NameKind.free && env.scope.kind==.function && env.kindOf n==some .cell)=true
     ·rw[aq D];simp only[d5,hx];exact I h
     ·rw[b7 D];simp only[d5,hx];exact I h
def lr(X:Cx)(x:Str)(N':h6)(sc:Scope)(cl:List (Str×Addr))(C:Addr)(s₂:Shared)(H₂:Hp)(fp:ia):Cx :=
 { X with N:=x::N',s₀:=s₂,H₀:=H₂,env:=compEnvC sc cl C X.env,outer:=X.stack,stack:=X.stack,ex:=fp,fn:=λ_=>false,pn:=[],xe:=λ_ _=>False }
def gY(X:Cx)(ifs:i0)(tt:TT):Prop :=
 ∀(pins:kv) (s:Shared) (σ:St) (H:Hp) (Q:Bool->Hp->Prop),Inv X pins σ H s->tt σ H Q ->
  wpAny (model X.prog X.w) X.A (forIn ifs true λc r=>if r=true then do let ok <-isTrue c X.env (eval c X.env);pure (ForInStep.yield ok) else pure (ForInStep.yield r)) (TP X pins σ Q) X.xe s
def yU:TT:=λ_ H Q=>Q true H
def Kc:gY X [] yU:=λ_ _ _ H _ I h=>wpAny_tests_nil ⟨H,I,h⟩
variable{c:Expr}
def Kd{tc:TT}(h:PT X c tc):gY X [c] tc:=λpins s σ H Q I q=>wpAny_tests_one (h pins s σ H Q I q)
def yw(wi:TI)(ix:ic)(tt:TT)(te:TE):TE:=λσ H Q=>wi σ H λJ H1=>∃W:Nat->Nat->Hp->k6->Prop,(∃m,W 0 m H1 [])/\∀i m H ys,W i m H ys ->
 (J.stop i H/\ys.length<=sizeLine/\∀D,H D=none->Q (.ref D) (aV H D (.lst ys))) \/
 (J.go i H/\∀x H',J.yld i H x H'->tt (↑x::ix.map (λj=>σ.getD j none)) H' λb H2 =>
   if b=true then te (↑x::ix.map (λj=>σ.getD j none)) H2 λv U=>ys.length<sizeLine/\∃I,I<m/\W (i+1) I U (ys++[v]) else ∃I,I<m/\W (i+1) I H2 ys)
abbrev lobj(ys:h7):Obj:={ cls:=.type "list",data:=.seq ys.toArray ys.length }
variable{ys:k6}{y:Str}
def aP.snoc{y:V}{u:Value}(h:aP ys vs)(r:RelV y u):aP (ys++[y]) (vs++[u]):=aP.append h (.cons r .nil)
def Ke(vs:h7)(u:Value):({ cls:=.type "list",data:=.seq (vs.toArray.push u) (vs.length+1) }:Obj)=lobj (vs++[u]):=LCg.lst_snoc vs u
variable{R:Result->Shared->Prop}{s:Sl}{elt iter:Expr}{ifs:i0}{pos:Pos}
def Kf{prog:Program}{s:Shared}{D:Expr}{scope:Scope}{it d:Value}(I:Nat->Shared->Prop)(turn:∀n s,I n s->wpAny (model prog w) A (pyNext it) (λr U=>match r with
   |none=>R (.ok .next) U |some v => wpAny (model prog w) A (letOwnedTupleGo D it v) (λ_ V => wpAny (model prog w) A (assign D env v) (λ_ s₂ => wpAny (model prog w) A (forIn ifs true λc r => if r = true then do let ok <-isTrue c env (eval c env);pure (ForInStep.yield ok) else pure (ForInStep.yield r)) (λok Y =>
       if ok=true then wpAny (model prog w) A (eval elt env) (λx Z=>wpAny (model prog w) A (call (.builtin "list.append") [d,x]) (λ_ a=>∃m,m<n/\I m a) (notedBy (model prog w) A env λe s'=>R (.error e) s') Z) (notedBy (model prog w) A env λe s'=>R (.error e) s') Y
       else ∃m,m<n/\I m Y) (notedBy (model prog w) A env λe s'=>R (.error e) s') s₂) (notedBy (model prog w) A env λe s'=>R (.error e) s') V) (notedBy (model prog w) A env λe s'=>R (.error e) s') U) (notedBy (model prog w) A env λe s'=>R (.error e) s') s)(n:Nat)(h:I n s):codeAny (model prog w) A (.compLoop (.ListComp elt [⟨D,iter,ifs,0⟩] scope pos) 0 it d env) R s:=by
 refine codeAny_loop rfl I (λn s k=>?_) n h;refine(show wpAny _ A ((compTurn (.ListComp elt [⟨D,iter,ifs,0⟩] scope pos) 0 it d env).onRaise (λx=>do noteFrame x env;theTreesLotGoes x)) _ _ s from wpAny_noted ?_);rw[compTurn_list];refine ax (ph (ax (bI (turn n s k) λr U h₁=>?_)));cases r with
 |none=>exact dg h₁ |some v =>
   refine ax (bI h₁ λ_ V f=>ax (bI f λ_ s₂ g=>ax (bI g λok Y b=>?_)));cases ok with
   |false=>exact dg ⟨rfl,b⟩ |true=>exact ax (ax (bI b λx Z i=>ax (bI i λ_ a j=>dg (dg ⟨rfl,j⟩))))
def nk(X:Cx)(xs N':h6)(sc:Scope)(cl:List (Str×Addr))(C:Addr)(s₂:Shared)(H₂:Hp)(fp:ia):Cx :=
 { X with N:=xs++N',s₀:=s₂,H₀:=H₂,env:=compEnvC sc cl C X.env,outer:=X.stack,stack:=X.stack,ex:=fp,fn:=λ_=>false,pn:=[],xe:=λ_ _=>False }
def DE(Z:Nat)(wi:TI)(g:TG)(ix:ic)(tt:TT)(te:TE):TE:=λσ H Q=>wi σ H λJ H1=>∃W:Nat->Nat->Hp->k6->Prop,(∃m,W 0 m H1 [])/\∀i m H ys,W i m H ys ->
 (J.stop i H/\ys.length<=sizeLine/\∀D,H D=none->Q (.ref D) (aV H D (.lst ys))) \/
 (J.go i H/\∀x H',J.yld i H x H'->∀σp:St,σp.length=Z->g x (σp++ix.map (λj=>σ.getD j none)) H' λI H1=>∃U:St,U.length=Z/\I=U++ix.map (λj=>σ.getD j none)/\tt I H1 λb H2 =>
   if b=true then te I H2 λv a=>ys.length<sizeLine/\∃Y,Y<m/\W (i+1) Y a (ys++[v]) else ∃Y,Y<m/\W (i+1) Y H2 ys)
variable{pins:kv}{σ:St}{s2:Shared}{fp:ia}{cl:List (Str×Addr)}{h₁:Heap}{m₁:Str->h8}{xs N':h6}{ix:ic}
theorem Kg{tk:Nat}(x:N'=ix.map λi=>X.N.getD i ("" : Str))(L:sc.kind=.function)(Z:∀y∈sc.names,y.2≠.cell)(a:∀y∈sc.names,y.2=.free->X.env.kindOf y.1=some .cell\/X.env.kindOf y.1=some .free)(A:∀y∈N',sc.names.lookup y=some .free)(h1:∀y c,cl.lookup y=↑c->X.env.cells.lookup y=↑c)(K:∀y∈sc.names,y.2=.free->∃c,cl.lookup y.1=↑c)(I:Inv X pins σ H2 s2)(t:∀b∈fp,d_ X pins H2 b)(B:∀b∈fp,∃o,s2.heap.get? b=↑o)(Y:∀b o,s2.heap.get? b=↑o->h₁.get? b=↑o)(C:h₁.Ns (s2.heap.objs.size+1) m₁)(M:h₁.get? s2.heap.objs.size=↑(lobj [])) :
  Inv (nk X xs N' sc cl (s2.heap.objs.size+1) s2 H2 fp) [(s2.heap.objs.size,lobj [])] (xs.map (λ_=>none)++ix.map (λj=>σ.getD j none)) H2 { s2 with heap:=h₁,toks:=tk }:=by
 have E:∀b∈fp,b<s2.heap.objs.size:=λb V=>by obtain⟨o,e⟩:=B b V;exact bz e
 have f:∀b,s2.heap.objs.size<=b->b∉fF X.stack:=λb V z=>by
  rcases cr.mp (I.stkSub b z) with e |z
  ·exact absurd (b6 I.lt (e ▸ V)) (ir _)
  ·exact I.nofs V z
 refine⟨⟨I.ok.mod,L,I.ok.glob,I.ok.blt,qe _,λy z c U D=>I.ok.inj y z c (h1 _ _ U) (h1 _ _ D),λy O=>?_,λy c z _=>(by cases z),I.ok.hd,I.ok.frames,.inl rfl,λb V=>⟨?_,λy c e=>?_⟩,I.bs,d7 I.ok.bsz I.sz,λb o e V=>?_,λb V z=>?_,I.stack,I.stkFree⟩,
  rfl,I.bare,Un.kept Y,⟨m₁,C,λi y v U D W=>?_⟩,λy c e=>?_,I.hok.fresh (qe _),λy c e=>I.freeC y c (h1 y c e),λp F=>?_,I.hok.kept Y,?_⟩
 ·have G:(relabel sc X.env).names.lookup y=some .cell\/(relabel sc X.env).names.lookup y=some .free:=O
  have P:sc.names.lookup y=some .free:=by
   rcases G with q |q
   ·rcases yT q with q | ⟨q,_⟩
    ·exact absurd rfl (Z _ (f6 q))
    ·exact q
   ·rcases yT q with q | ⟨_,q⟩
    ·exact q
    ·cases q
  exact K (y,.free) (f6 P) rfl
 ·exact cf (iz (E b V))
 ·exact(t b V).2.2.2.2.1 y c (h1 y c e)
 ·rcases(t b V).2.2.2.1 with z |z
  ·exact I.ok.noex b o e z
  ·exact absurd (b6 (bz e) (d7 I.ok.bsz z)) (ir _)
 ·have z:b∈fF X.stack:=z
  rcases cr.mp (I.stkSub b z) with e |z
  ·exact(t b V).2.1 e
  ·exact(t b V).2.2.1 z
 ·by_cases g:i<xs.length
  ·rw[bg (by simpa using g),b8] at D
   cases hq0:xs[i]? with
   |none=>rw[hq0] at D;cases D
   |some z0=>rw[hq0] at D;cases D
  ·have U:(xs++N')[i]?=↑y:=U
   rw[dc ∅] at U;rw[dc (by rw[ah];lia),ah] at D;generalize i-xs.length=j at U D;rw[x,b8] at U;rw[b8] at D;cases q:ix[j]? with
   |none=>rw[q] at U;cases U
   |some k =>
     rw[q] at U D;have U:X.N.getD k "" = y:=cg U;have D:σ.getD k none=↑v:=cg D;have h:σ[k]?=↑↑v:=by
      rw[bn] at D;cases q2:σ[k]? with
      |none=>rw[q2] at D;cases D
      |some z=>rw[q2] at D;rw[show z=↑v from D]
     have l:k<X.N.length:=by rw[<-I.len];exact(aj.mp h).1
     have H:X.N[k]?=↑y:=by
      rw[bn,am l] at U;rw[am l];exact congrArg some U
     have J:y∈N':=by
      rw[x,<-U];exact fb.mpr ⟨k,bc q,rfl⟩
     have d:=A y J;have n:=a (y,.free) (f6 d) rfl;have r:lJ X.env.scope y:=by
      rcases n with z |z
      ·exact .inr (.inl z)
      ·exact .inr (.inr z)
     obtain⟨m,hn,Q⟩:=I.loc;obtain⟨u,R,S⟩:=Q k y v H h r;refine⟨u,R,.inr ⟨?_,?_⟩⟩
     ·exact nI d
     ·rcases S with⟨z,_⟩ | ⟨_,c,hc,hcv⟩
      ·rcases n with w |w <;> rw[show X.env.kindOf y=_ from w] at z <;> cases z
      ·obtain⟨T,s⟩:=K (y,.free) (f6 d) rfl
       have:=h1 y T s;rw[hc] at this;cases this;exact⟨c,s,hcv.keeps Y⟩
 ·obtain⟨v,q⟩:=I.cell y c (h1 y c e)
  exact⟨v,q.keeps Y⟩
 ·have F:p∈[(s2.heap.objs.size,lobj [])]:=F
  rw[d6.mp F];exact⟨M,I.hok.fresh (b9 _),cf (gg _),f _ (b9 _),λv z=>by cases z⟩
 ·simp[nk,x]
def yV{g:St}{Y:Shared}{h':Heap}(I:Inv X pins σ H2 s2)(k:∀b∈fp,d_ X pins H2 b)(l:∀b∈fp,∃o,s2.heap.get? b=↑o)(J:Inv (nk X xs N' sc cl (s2.heap.objs.size+1) s2 H2 fp) [(s2.heap.objs.size,lobj vs)] g H' Y)(m:aP ys vs)(p:ys.length<=sizeLine)(d:Heap.SameBut (s2.heap.objs.size+1) Y.heap h') :
  Inv X pins σ (aV H' s2.heap.objs.size (.lst ys)) { Y with heap:=h' }:=by
 have j:=J.pin (s2.heap.objs.size,lobj vs) (cw _ bi);have Z:H' s2.heap.objs.size=none:=j.2.1;have a:H' (s2.heap.objs.size+1)=none:=J.free;have U:Un (fF X.stack) fp H2 H' s2.heap Y.heap:=J.base;have f:∀b o,s2.heap.get? b=↑o->b≠s2.heap.objs.size/\b≠s2.heap.objs.size+1:=λb o e=>by
  have:=bz e;exact⟨cf this,cf (iz this)⟩
 have r:∀b,s2.heap.objs.size<=b->H2 b=none:=λb D=>I.hok.fresh D;have h:∀b o,H2 b=↑o->b≠s2.heap.objs.size:=λb o e z=>by rw[z,r _ (b9 _)] at e;cases e
 have s:Un (fF X.stack) fp H2 (aV H' s2.heap.objs.size (.lst ys)) s2.heap h':=by
  refine⟨λb o e n D V=>(d.2 b (f b o e).2).trans (U.keep b o e n D V),λb o e n D V=>?_,λb o e n V=>?_,λb o e V=>?_,λb xs e=>?_,λb o u e=>?_,λb ps e=>?_⟩
  ·obtain⟨sl,q⟩:=U.slot b o e n D V
   exact⟨sl,(d.2 b (f b o e).2).trans q⟩
  ·rw[jo (f b o e).1];exact U.free b o e n V
  ·obtain⟨o',q⟩:=U.there b o e V
   exact⟨o',(d.2 b (f b o e).2).trans q⟩
  ·rw[jo (h b _ e)];exact U.tups b xs e
  ·rw[jo (h b _ e)];exact U.frzs b o u e
  ·rw[jo (h b _ e)];exact U.tbls b ps e
 have kk:∀b u,b≠s2.heap.objs.size+1->Y.heap.get? b=↑u->h'.get? b=↑u:=λb u D q=>(d.2 b D).trans q;have i:e_ X.prog X.w (aV H' s2.heap.objs.size (.lst ys)) h':=λb u e=>by
  by_cases D:b=s2.heap.objs.size
  ·subst D
   rw[m6] at e;cases e;exact⟨p,vs,vs.length,m,kk _ _ (cf (gg _)) j.1⟩
  ·rw[jo D] at e
   have t:b≠s2.heap.objs.size+1:=λz=>by rw[z,a] at e;cases e
   refine(J.hok b u e).stay (λc v hc q=>kk c v ?_ q) (λc q=>?_) λc xs q=>?_
   ·rcases hc with rfl |hc
    ·exact t
    ·intro z;rw[z,a] at hc;cases hc
   ·rw[jo (λz=>by rw[z,Z] at q;cases q)];exact q
   ·rw[jo (λz=>by rw[z,Z] at q;cases q)];exact q
 refine I.call' (s':={ Y with heap:=h' }) (ch:=fp) J.os s i J.bare λb D=>?_;obtain⟨_,x,_,y,A,B⟩:=k b D;exact⟨y,x,A,B⟩
variable{J:It}{Q:VK}{W:Nat->Nat->Hp->k6->Prop}{Cm:Cx->Prop}{tg:Expr}{g:TG}{tt:TT}{te:TE}
theorem yW{it:Addr}{O:Nat->Heap->Prop}{m0:Nat}(hc:∀cl C s₂ H₂ fp pins σ,Inv X pins σ H₂ s₂->(∀b∈fp,d_ X pins H₂ b)->Cm (nk X xs N' sc cl C s₂ H₂ fp))(a8:∀cl C s₂ H₂ fp,Cm (nk X xs N' sc cl C s₂ H₂ fp)->gY (nk X xs N' sc cl C s₂ H₂ fp) ifs tt)(a9:∀cl C s₂ H₂ fp,Cm (nk X xs N' sc cl C s₂ H₂ fp)->PE (nk X xs N' sc cl C s₂ H₂ fp) elt te)(hg:∀cl C s₂ H₂ fp,Cm (nk X xs N' sc cl C s₂ H₂ fp)->PG (nk X xs N' sc cl C s₂ H₂ fp) tg g)(hN:N'=ix.map λi=>X.N.getD i ("" : Str))(hk:sc.kind=.function)(P:∀y∈sc.names,y.2≠.cell)(a7:∀y∈sc.names,y.2=.local->sc.names.lookup y.1=some .local)(S:∀y∈sc.names,y.2=.free->X.env.kindOf y.1=some .cell\/X.env.kindOf y.1=some .free)(ba:∀y∈N',sc.names.lookup y=some .free)(h1:∀y c,cl.lookup y=↑c->X.env.cells.lookup y=↑c)(h3:∀y∈sc.names,y.2=.free->∃c,cl.lookup y.1=↑c)(h:Inv X pins σ H2 s2)(T:lM Cm X.prog X.w X.K tg J fp it O)(an:O 0 s2.heap)(k:∀b∈fp,d_ X pins H2 b)(w0:W 0 m0 H2 [])(turn:∀i m H ys,W i m H ys ->
   (J.stop i H/\ys.length<=sizeLine/\∀D,H D=none->Q (.ref D) (aV H D (.lst ys))) \/
   (J.go i H/\∀x H',J.yld i H x H'->∀σp:St,σp.length=xs.length->g x (σp++ix.map (λj=>σ.getD j none)) H' λl H1=>∃V:St,V.length=xs.length/\l=V++ix.map (λj=>σ.getD j none)/\tt l H1 λb H2 =>
     if b=true then te l H2 λv H3=>ys.length<sizeLine/\∃s,s<m/\W (i+1) s H3 (ys++[v]) else ∃s,s<m/\W (i+1) s H2 ys))(ap:∀b o,s2.heap.get? b=↑o->h₁.get? b=↑o)(t:h₁.Ns (s2.heap.objs.size+1) m₁)(ar:h₁.get? s2.heap.objs.size=↑(lobj []))(hR:∀s5 F ys vs B,Inv (nk X xs N' sc cl (s2.heap.objs.size+1) s2 H2 fp) [(s2.heap.objs.size,lobj vs)] B F s5->aP ys vs->ys.length<=sizeLine->(∀D,F D=none->Q (.ref D) (aV F D (.lst ys)))->R (.ok .next) s5) :
  codeAny (model X.prog X.w) X.A (.compStart (.ListComp elt [⟨tg,iter,ifs,0⟩] sc pos) 0 (.ref it) (.ref s2.heap.objs.size) (compEnvC sc cl (s2.heap.objs.size+1) X.env)) R { s2 with heap:=h₁,toks:=s2.toks+([]:List (Str×Value)).length }:=by
 have a0:∀b∈fp,∃o,s2.heap.get? b=↑o:=λb I=>by obtain⟨o,e,_⟩:=T.obj _ _ an b I;exact⟨o,e⟩
 have aa:∀b∈fp,b<s2.heap.objs.size:=λb I=>by obtain⟨o,e⟩:=a0 b I;exact bz e
 have I3:=Kg (xs:=xs) (tk:=s2.toks+([]:List (Str×Value)).length) hN hk P S ba h1 h3 h k a0 ap t ar;have a1:O 0 h₁:=T.keep _ _ _ an λb I o e=>ap b o e;generalize Y:nk X xs N' sc cl (s2.heap.objs.size+1) s2 H2 fp=X' at I3;have eP:X'.prog=X.prog:=by rw[<-Y];rfl
 have eW:X'.w=X.w:=by rw[<-Y];rfl
 have eK:X'.K=X.K:=by rw[<-Y];rfl
 have eA:X'.A=X.A:=by rw[<-Y];rfl
 have G:X'.env=compEnvC sc cl (s2.heap.objs.size+1) X.env:=by rw[<-Y];rfl
 have eC:Cm X':=by rw[<-Y];exact hc _ _ _ _ _ _ _ h k
 have a2:X'.pn=[]:=by rw[<-Y];rfl
 have ab:X'.xe=λ_ _=>False:=by rw[<-Y];rfl
 have a3:X'.fs=fF X.stack:=by rw[<-Y];rfl
 have bb:X'.ex=fp:=by rw[<-Y];rfl
 have eS:X'.s₀=s2:=by rw[<-Y];rfl
 have bd:∀b∈fp,b∉fF X.stack:=λb I z=>by
  rcases cr.mp (h.stkSub b z) with e |z
  ·exact(k b I).2.1 e
  ·exact(k b I).2.2.1 z
 have a4:s2.heap.objs.size∉fF X.stack:=λz=>by
  rcases cr.mp (h.stkSub _ z) with e |z
  ·exact absurd (e ▸ h.lt) (ir _)
  ·exact h.nofs (b9 _) z
 have Z:∀ {H':Hp} {vs:h7},(∀b∈fp,H' b=none)->∀b∈fp,d_ X' [(s2.heap.objs.size,lobj vs)] H' b:=λ{H' vs} hn b I=>by
  refine⟨hn b I,?_,?_,.inl (by rw[bb];exact I),λy c e=>?_,λp E=>?_⟩
  ·rw[G];exact cf (iz (aa b I))
  ·rw[a3];exact bd b I
  ·rw[G] at e;exact(k b I).2.2.2.2.1 y c (h1 y c e)
  ·rw[a2] at E
   rw[d6.mp (show p∈[(s2.heap.objs.size,lobj vs)] from E)];exact li (aa b I)
 have loop:∀U:Shared,U={ s2 with heap:=h₁,toks:=s2.toks+([]:List (Str×Value)).length } ->
   codeAny (model X.prog X.w) X.A (.compLoop (.ListComp elt [⟨tg,iter,ifs,0⟩] sc pos) 0 (.ref it) (.ref s2.heap.objs.size) (compEnvC sc cl (s2.heap.objs.size+1) X.env))
    (R) U:=by
  rintro U rfl;refine Kf (λn s'=>∃i σp H' ys vs,σp.length=xs.length/\Inv X' [(s2.heap.objs.size,lobj vs)] (σp++ix.map (λj=>σ.getD j none)) H' s'/\aP ys vs/\O i s'.heap/\(∀b∈fp,H' b=none)/\W i n H' ys) ?_ m0
   ⟨0,xs.map (λ_=>none),H2,[],[],by simp,I3,.nil,a1,λb I=>(k b I).1,w0⟩
  rintro n s4 ⟨i,σp,F,ys,vs,hσp,I4,hv4,st4,fr4,w4⟩;rcases turn i n F ys w4 with⟨a5,hl,qn⟩ | ⟨go,step⟩
  ·have D:=T.done X' eP eW eK eC i _ s4 _ F (notedBy (model X.prog X.w) X.A (compEnvC sc cl (s2.heap.objs.size+1) X.env) λe s'=>R (.error e) s') I4 (Z fr4) st4 a5
   rw[eA] at D;refine bI D λr s5 a=>?_;obtain⟨hr,I5⟩:=a;subst hr;exact hR s5 F ys vs _ (Y ▸ I5) hv4 hl qn
  ·have D:=T.item X' eP eW eK eC i _ s4 _ F (notedBy (model X.prog X.w) X.A (compEnvC sc cl (s2.heap.objs.size+1) X.env) λe s'=>R (.error e) s') I4 (Z fr4) st4 go
   rw[eA] at D;refine bI D λr s5 a=>?_;obtain⟨u,hr,h5⟩:=a;subst hr;have be:wpAny (model X.prog X.w) X.A (letOwnedTupleGo tg (.ref it) u) (λ_ ag=>wpAny (model X.prog X.w) X.A (assign tg (compEnvC sc cl (s2.heap.objs.size+1) X.env) u) (λ_ s₂ =>
     wpAny (model X.prog X.w) X.A (forIn ifs true λc r=>if r=true then do let ok <-isTrue c (compEnvC sc cl (s2.heap.objs.size+1) X.env) (eval c (compEnvC sc cl (s2.heap.objs.size+1) X.env));pure (ForInStep.yield ok) else pure (ForInStep.yield r)) (λok U =>
      if ok=true then wpAny (model X.prog X.w) X.A (eval elt (compEnvC sc cl (s2.heap.objs.size+1) X.env)) (λx a6 =>
       wpAny (model X.prog X.w) X.A (call (.builtin "list.append") [.ref s2.heap.objs.size,x]) (λ_ L=>∃m,m<n/\∃i σp H' ys vs,σp.length=xs.length/\Inv X' [(s2.heap.objs.size,lobj vs)] (σp++ix.map (λj=>σ.getD j none)) H' L/\aP ys vs/\O i L.heap/\(∀b∈fp,H' b=none)/\W i m H' ys)
        (notedBy (model X.prog X.w) X.A (compEnvC sc cl (s2.heap.objs.size+1) X.env) λe s'=>R (.error e) s') a6)
       (notedBy (model X.prog X.w) X.A (compEnvC sc cl (s2.heap.objs.size+1) X.env) λe s'=>R (.error e) s') U
      else ∃m,m<n/\∃i σp H' ys vs,σp.length=xs.length/\Inv X' [(s2.heap.objs.size,lobj vs)] (σp++ix.map (λj=>σ.getD j none)) H' U/\aP ys vs/\O i U.heap/\(∀b∈fp,H' b=none)/\W i m H' ys)
      (notedBy (model X.prog X.w) X.A (compEnvC sc cl (s2.heap.objs.size+1) X.env) λe s'=>R (.error e) s') s₂)
     (notedBy (model X.prog X.w) X.A (compEnvC sc cl (s2.heap.objs.size+1) X.env) λe s'=>R (.error e) s') ag) (notedBy (model X.prog X.w) X.A (compEnvC sc cl (s2.heap.objs.size+1) X.env) λe s'=>R (.error e) s') s5:=by
    refine bI h5 λ_ s6 a=>?_;obtain⟨z,H6,I6,r6,y6,al,bf⟩:=a;have bk:=I6.pinned (Z bf) (T.obj _ _ al);have q6:=step z H6 y6 σp hσp;have g6:=(Y ▸ hg cl (s2.heap.objs.size+1) s2 H2 fp (hc _ _ _ _ _ _ _ h k):PG X' tg g) _ s6 _ H6 z u _ bk r6 q6;rw[eP,eW,eA,G] at g6;refine jd g6 (λ_ s7 a=>?_) (λe s' z=>by rw[ab] at z;exact z.elim);obtain⟨l,H7,I7,V,M,bl,q7⟩:=a;subst bl;have t7:=(Y ▸ a8 cl (s2.heap.objs.size+1) s2 H2 fp (hc _ _ _ _ _ _ _ h k):gY X' ifs tt) _ s7 _ H7 _ I7 q7;rw[eP,eW,eA,G] at t7;refine jd t7 (λb s8 a=>?_) (λe s' z=>by rw[ab] at z;exact z.elim);obtain⟨H8,I8,q8⟩:=a;have f:∀ {s':Shared} {H':Hp} {B:St},Inv X' ([(s2.heap.objs.size,lobj vs)]++pO fp s6.heap) B H' s'->O (i+1) s'.heap/\∀b∈fp,H' b=none:=λ{s' H' B} J'=>by
     refine⟨T.keep _ _ _ al λb I o e=>(J'.pin (b,o) (cw _ (cw _ (sV I e)))).1,λb I=>?_⟩;obtain⟨o,e,d⟩:=T.obj _ _ al b I;exact(J'.pin (b,o) (cw _ (cw _ (sV I e)))).2.1
    cases b with
    |false =>
      rw[b7 dq] at q8 ⊢;obtain⟨s,hm,w8⟩:=q8;obtain⟨k1,k2⟩:=f I8;exact⟨s,hm,i+1,V,H8,ys,vs,M,I8.unpinned,hv4,k1,k2,w8⟩
    |true =>
      rw[aq rfl] at q8 ⊢;have t8:=(Y ▸ a9 cl (s2.heap.objs.size+1) s2 H2 fp (hc _ _ _ _ _ _ _ h k):PE X' elt te) _ s8 _ H8 _ I8 q8;rw[eP,eW,eA,G] at t8;refine jd t8 (λv s9 a=>?_) (λe s' z=>by rw[ab] at z;exact z.elim);obtain⟨y,H9,I9,r9,br,s,hm,w9⟩:=a;have pD:=I9.pin (s2.heap.objs.size,lobj vs) (cw _ (fq _ bi));obtain⟨k1,k2⟩:=f I9;have bs:=hv4.length;refine append_at (D:=s2.heap.objs.size) (its:=vs.toArray) (n:=vs.length) pD.1 (λh' sb hD=>?_) (by rw[cb];lia);have bm:Inv X' [] (V++ix.map (λj=>σ.getD j none)) H9 s9:=I9.pins_of λp E=>nomatch E;have cne:∀y c,X'.env.cells.lookup y=↑c->c≠s2.heap.objs.size:=λy c e=>by
       rw[G] at e;obtain⟨v',q⟩:=h.cell y c (h1 y c e);exact cf q.lt
      have bo:Inv X' [] (V++ix.map (λj=>σ.getD j none)) H9 { s9 with heap:=h' }:=bm.turned (t':=s9.toks) (it:=s2.heap.objs.size) (λb o I e=>(sb.2 b I).trans e) pD.2.1 (by rw[G];exact cf (gg _)) (.inr (by rw[eS];exact b9 _)) cne (λp E=>by rw[a2] at E;exact nomatch E);have bp:Inv X' [(s2.heap.objs.size,lobj (vs++[v]))] (V++ix.map (λj=>σ.getD j none)) H9 { s9 with heap:=h' }:=bo.pins_of λp E=>by
       rw[d6.mp E];exact⟨hD.trans (congrArg some (Ke vs v)),pD.2.1,by rw[G];exact cf (gg _),by rw[a3];exact a4,λv' z'=>by cases z'⟩
      exact⟨s,hm,i+1,V,H9,ys++[y],vs++[v],M,bp,hv4.snoc r9,T.keep _ _ _ k1 (λb I o e=>(sb.2 b (cf (aa b I))).trans e),k2,w9⟩
   exact be
 exact codeAny_compStart_list (loop _ rfl) (T.self X.A 0 _ _ _ a1 (loop _ rfl))
def DF(turn:∀i m H ys,W i m H ys ->
   (J.stop i H/\ys.length<=sizeLine/\∀D,H D=none->Q (.ref D) (aV H D (.lst ys))) \/
   (J.go i H/\∀x H',J.yld i H x H'->tt (↑x::ix.map (λj=>σ.getD j none)) H' λb H2 =>
     if b=true then te (↑x::ix.map (λj=>σ.getD j none)) H2 λv Y=>ys.length<sizeLine/\∃I,I<m/\W (i+1) I Y (ys++[v]) else ∃I,I<m/\W (i+1) I H2 ys)) :
  ∀i m H ys,W i m H ys ->
   (J.stop i H/\ys.length<=sizeLine/\∀D,H D=none->Q (.ref D) (aV H D (.lst ys))) \/
   (J.go i H/\∀v H',J.yld i H v H'->∀σp:St,σp.length=[x].length->p8 0 v (σp++ix.map (λj=>σ.getD j none)) H' λU H1=>∃V:St,V.length=[x].length/\U=V++ix.map (λj=>σ.getD j none)/\tt U H1 λb H2 =>
     if b=true then te U H2 λv Y=>ys.length<sizeLine/\∃I,I<m/\W (i+1) I Y (ys++[v]) else ∃I,I<m/\W (i+1) I H2 ys):=λi m H ys w=>(turn i m H ys w).imp id λq=>⟨q.1,λv H' y σp Z=>by
 obtain⟨a,rfl⟩:=List.length_eq_one_iff.mp Z;exact⟨[↑v],rfl,rfl,q.2 v H' y⟩⟩
variable{C:Addr}{s₂:Shared}{H₂:Hp}{px:Pos}
def DG(D:(x::N').Nodup)(I:sc.names.lookup x=some .local):PG (nk X [x] N' sc cl C s₂ H₂ fp) (.Name x px) (p8 0) :=
 xU (i:=0) D rfl (.inl (jp I)) (.inr (jp I))
variable{h:Heap}
def Heap.SameBut.rf(e:∃o,h.get? a=↑o):Heap.SameBut a h h:=by
 first |exact⟨rfl,λ_ _=>rfl⟩ |exact⟨e,λ_ _=>rfl⟩
structure yX (X:Cx) (x:Str) (N':h6) (ix:ic) (sc:Scope):Prop where
 nm:N'=ix.map λi=>X.N.getD i ("" : Str)
 nd:(x::N').Nodup
 kind:sc.kind=.function
 hx:sc.names.lookup x=some .local
 cell:∀y∈sc.names,y.2≠.cell
 names:∀y∈sc.names,y.2=.local->sc.names.lookup y.1=some .local
 free:∀y∈sc.names,y.2=.free->X.env.kindOf y.1=some .cell\/X.env.kindOf y.1=some .free
 fv:∀y∈N',sc.names.lookup y=some .free
variable{wi:TI}
def yY(c:yX X x N' ix sc)(t:∀cl C s₂ H₂ fp pins σ,Inv X pins σ H₂ s₂->(∀b∈fp,d_ X pins H₂ b)->Cm (lr X x N' sc cl C s₂ H₂ fp))(hi:kN Cm X (.Name x px) iter wi)(a:∀cl C s₂ H₂ fp,Cm (lr X x N' sc cl C s₂ H₂ fp)->gY (lr X x N' sc cl C s₂ H₂ fp) ifs tt)(d:∀cl C s₂ H₂ fp,Cm (lr X x N' sc cl C s₂ H₂ fp)->PE (lr X x N' sc cl C s₂ H₂ fp) elt te)(u:∀v,foldedSetIterable iter X.env v=pure v:=by intro _;rfl) :
  PE X (.ListComp elt [⟨.Name x px,iter,ifs,0⟩] sc pos) (yw wi ix tt te):=by
 intro pins s σ H Q I h;obtain⟨cl,f,h1,w⟩:=yS (sc:=sc) (env:=X.env) (λy i z=>I.ok.has y.1 (c.free y i z));rw[eval_ListComp];refine pi (use:=none) rfl u f c.kind c.names (bI (hi pins s σ H _ I h) λv O A=>bI A λB s2 h2=>?_);obtain⟨it,fp,P,J,H2,rfl,q,T,V,r,W,⟨R,E⟩,turn⟩:=h2;refine ly (uf c.cell (by intro y i;simp at i) (λh₁ U D=>?_) c.kind);dsimp only at U D ⊢;have Y:(s2.heap.push { cls:=.type "list",dict:=none,data:=.seq ([]:h7).toArray }).objs.size=s2.heap.objs.size+1:=j3 ..;rw[Y] at U D ⊢;have j:∀b o,s2.heap.get? b=↑o->h₁.get? b=↑o:=λb o e=>D.extBut b o (cf (iz (bz e))) (au _ (au _ e));have Z:h₁.get? s2.heap.objs.size=↑(lobj []):=D.extBut _ _ (cf (gg _)) (au _ (db _ rfl));have k:∀b∈fp,∃o,s2.heap.get? b=↑o:=λb F=>by obtain⟨o,e,_⟩:=T.obj _ _ V b F;exact⟨o,e⟩
 refine yW (xs:=[x]) (g:=p8 0) t a d (λ_ _ _ _ _ _=>DG c.nd c.hx) c.nm c.kind c.cell c.names c.free c.fv h1 w q T V r E (DF turn) j U Z λS H4 ys vs G l m K L=>?_;obtain⟨M,n,_⟩:=l.loc;refine⟨M,n,λh' N=>?_⟩;have p:=(l.pin (s2.heap.objs.size,lobj vs) (cw _ bi)).2.1;exact⟨.ref s2.heap.objs.size,_,yV (xs:=[x]) q r k l m K N,rfl,L _ p⟩
variable{i:Nat}
def pZ{py spos:Pos}(c:yX X x N' ix sc)(hc:∀cl C s₂ H₂ fp pins σ,Inv X pins σ H₂ s₂->(∀b∈fp,d_ X pins H₂ b)->Cm (lr X x N' sc cl C s₂ H₂ fp))(q:X.N.Nodup)(r:X.N[i]?=↑y)(t:Loc X.env.scope y)(hi:kN Cm X (.Name x px) iter wi)(u:∀cl C s₂ H₂ fp,Cm (lr X x N' sc cl C s₂ H₂ fp)->gY (lr X x N' sc cl C s₂ H₂ fp) ifs tt)(w:∀cl C s₂ H₂ fp,Cm (lr X x N' sc cl C s₂ H₂ fp)->PE (lr X x N' sc cl C s₂ H₂ fp) elt te)(B:swapsWith (.ListComp elt [⟨.Name x px,iter,ifs,0⟩] sc pos) ↑(.Name y py) spos.line X.env=pure true)(E:X.fn y=true\/X.env.scope.names.lookup y=some .local:=by first |exact .inl rfl |exact .inr rfl |assumption)(hs:∀v,foldedSetIterable iter X.env v=pure v:=by intro _;rfl) :
  PS X (.Assign [.Name y py] (.ListComp elt [⟨.Name x px,iter,ifs,0⟩] sc pos) spos) (fI (yw wi ix tt te) (p8 i)):=by
 intro pins s σ H Dn I h;have h:yw wi ix tt te σ H λv H1=>Dn.nx (σ.set i ↑v) H1:=h;obtain⟨cl,F,h1,h3⟩:=yS (sc:=sc) (env:=X.env) (λy G E=>I.ok.has y.1 (c.free y G E));rw[exec_Assign_Name_used _ _ _ _ B];refine ax (ph (ax ?_));show wpAny _ X.A (do let _ <-comprehension (.ListComp elt [⟨.Name x px,iter,ifs,0⟩] sc pos) sc X.env _ (newList []) false (eval iter X.env) ↑(assign (.Name y py) X.env)) _ _ s;refine ax (jd (pi (use:=↑(assign (.Name y py) X.env)) (Q:=λ_ s'=>SP X pins Dn .next s') rfl hs F c.kind c.names
  (bI (hi pins s σ H _ I h) λv s1 g1=>bI g1 λaa s2 h2=>?_)) (λ_ s' hq=>dg (dg hq)) λ_ _ e=>e)
 obtain⟨it,fp,tn,J,H2,rfl,Z,T,d,f2,W,⟨m0,w0⟩,turn⟩:=h2;refine ly (uf c.cell (by intro y G;simp at G) (λh₁ U D=>?_) c.kind);dsimp only at U D ⊢;have f:(s2.heap.push { cls:=.type "list",dict:=none,data:=.seq ([]:h7).toArray }).objs.size=s2.heap.objs.size+1:=j3 ..;rw[f] at U D ⊢;have K:∀b o,s2.heap.get? b=↑o->h₁.get? b=↑o:=λb o e=>D.extBut b o (cf (iz (bz e))) (au _ (au _ e));have j:h₁.get? s2.heap.objs.size=↑(lobj []):=D.extBut _ _ (cf (gg _)) (au _ (db _ rfl));have L:∀b∈fp,∃o,s2.heap.get? b=↑o:=λb M=>by obtain⟨o,e,_⟩:=T.obj _ _ d b M;exact⟨o,e⟩
 refine yW (xs:=[x]) (g:=p8 0) (Q:=λv H1=>Dn.nx (σ.set i ↑v) H1) hc u w (λ_ _ _ _ _ _=>DG c.nd c.hx) c.nm c.kind c.cell c.names c.free c.fv h1 h3 Z T d f2 w0 (DF (Q:=λv H1=>Dn.nx (σ.set i ↑v) H1) turn) K U j λk H4 ys vs ab l O hl qn=>?_;obtain⟨m5,V,_⟩:=l.loc;have V:k.heap.Ns (s2.heap.objs.size+1) m5:=V;have P:=(l.pin (s2.heap.objs.size,lobj vs) (cw _ bi)).2.1;have oC:∃o,k.heap.get? (s2.heap.objs.size+1)=↑o:=let ⟨o,_,_,e,_⟩:=V;⟨o,e⟩;have I6:Inv X pins σ (aV H4 s2.heap.objs.size (.lst ys)) { k with heap:=k.heap }:=yV (xs:=[x]) Z f2 L l O hl (Heap.SameBut.rf oC);show wpAny _ X.A (assign (.Name y py) X.env (.ref s2.heap.objs.size)) _ _ k;have HC:aV H4 s2.heap.objs.size (.lst ys) (s2.heap.objs.size+1)=none:=by rw[jo (li (gg _))];exact l.free
 have Y:∀a o,s2.heap.get? a=↑o->s2.heap.objs.size+1≠a:=λa o e=>li (iz (bz e));have oL:∃o,s2.heap.get? X.env.locals=↑o:=let ⟨m,hn,_⟩:=Z.loc;let ⟨o,_,_,e,_⟩:=hn;⟨o,e⟩;have cL:s2.heap.objs.size+1≠X.env.locals:=let ⟨o,e⟩:=oL;Y _ o e;have cC:∀z n,X.env.cells.lookup z=↑n->n≠s2.heap.objs.size+1:=λz n e=>by
  obtain⟨v',o,e',_⟩:=Z.cell z n e;exact Ne.symm (Y _ o e')
 refine wpAny_assign_Name (xJ (v:=.ref s2.heap.objs.size) I6 q r t rfl (λs7 I7 zq=>?_) E);obtain⟨a,sb,ha⟩:=zq;have R:s2.heap.objs.size+1≠a:=by
  rcases ha with rfl |ha
  ·exact cL
  ·exact Ne.symm (cC _ _ ha)
 refine⟨m5,V.sameBut sb R,λh' S=>?_⟩;refine⟨_,_,I7.turned (t':=s7.toks) (it:=s2.heap.objs.size+1) (λb o M e=>(S.2 b M).trans e) HC cL (.inr ?_) cC (λp hp=>?_),qn _ P⟩
 ·exact uk Z.sz
 ·exact Ne.symm (Y _ _ (Z.pin p hp).1)
structure DH (X:Cx) (xs N':h6) (ix:ic) (sc:Scope):Prop where
 nm:N'=ix.map λi=>X.N.getD i ("" : Str)
 nd:(xs++N').Nodup
 kind:sc.kind=.function
 hx:∀y∈xs,sc.names.lookup y=some .local
 cell:∀y∈sc.names,y.2≠.cell
 names:∀y∈sc.names,y.2=.local->sc.names.lookup y.1=some .local
 free:∀y∈sc.names,y.2=.free->X.env.kindOf y.1=some .cell\/X.env.kindOf y.1=some .free
 fv:∀y∈N',sc.names.lookup y=some .free
def Kh(c:DH X xs N' ix sc)(t:X.calm=true)(hi:PI X tg iter wi)(a:∀cl C s₂ H₂ fp,gY (nk X xs N' sc cl C s₂ H₂ fp) ifs tt)(d:∀cl C s₂ H₂ fp,PE (nk X xs N' sc cl C s₂ H₂ fp) elt te)(u:∀cl C s₂ H₂ fp,PG (nk X xs N' sc cl C s₂ H₂ fp) tg g)(w:∀v,foldedSetIterable iter X.env v=pure v:=by intro _;rfl) :
  PE X (.ListComp elt [⟨tg,iter,ifs,0⟩] sc pos) (DE xs.length wi g ix tt te):=by
 intro pins s σ H Q I h;obtain⟨cl,f,h1,x⟩:=yS (sc:=sc) (env:=X.env) (λy i z=>I.ok.has y.1 (c.free y i z));rw[eval_ListComp];refine pi (use:=none) rfl w f c.kind c.names (bI (hi pins s σ H _ I h) λv O A=>bI A λB s2 h2=>?_);obtain⟨it,fp,P,J,H2,rfl,q,T,V,r,W,⟨R,E⟩,turn⟩:=h2;refine ly (uf c.cell (by intro y i;simp at i) (λh₁ U D=>?_) c.kind);dsimp only at U D ⊢;have Y:(s2.heap.push { cls:=.type "list",dict:=none,data:=.seq ([]:h7).toArray }).objs.size=s2.heap.objs.size+1:=j3 ..;rw[Y] at U D ⊢;have j:∀b o,s2.heap.get? b=↑o->h₁.get? b=↑o:=λb o e=>D.extBut b o (cf (iz (bz e))) (au _ (au _ e));have Z:h₁.get? s2.heap.objs.size=↑(lobj []):=D.extBut _ _ (cf (gg _)) (au _ (db _ rfl));have k:∀b∈fp,∃o,s2.heap.get? b=↑o:=λb F=>by obtain⟨o,e,_⟩:=T.obj _ _ V b F;exact⟨o,e⟩
 refine yW (Cm:=λX=>X.calm=true) (λ_ _ _ _ _ _ _ _ _=>t) (λ_ _ _ _ _ _=>a _ _ _ _ _) (λ_ _ _ _ _ _=>d _ _ _ _ _) (λ_ _ _ _ _ _=>u _ _ _ _ _) c.nm c.kind c.cell c.names c.free c.fv h1 x q T V r E turn j U Z λS H4 ys vs G l m K L=>?_;obtain⟨M,n,_⟩:=l.loc;refine⟨M,n,λh' N=>?_⟩;have p:=(l.pin (s2.heap.objs.size,lobj vs) (cw _ bi)).2.1;exact⟨.ref s2.heap.objs.size,_,yV q r k l m K N,rfl,L _ p⟩
inductive D where
 |non |bl (b:Bool) |int (i:Int) |str (s:Str) |tup (ds:List D) |lst (ds:List D)
 |dct (ks:ik) (ds:List D)
 |exc (a:Addr)
abbrev k7:=List D
abbrev k8:=Option D
inductive Im where
 |t (vs:k6) |d (kvs:List (dU×V))
@[reducible] noncomputable def Im.out:Im->HO | .t vs=>.tup vs | .d kvs=>.dK kvs
def p_(ks:ik)(vs:k6):List (dU×V):=ks.zipWith (λk v=>(Sum.inl k,v)) vs
def KL(K:kf)(a:Addr)(xs:k6):Prop :=
 ∃(o:Obj) (its:k4) (n:Nat),K.lookup a=↑o/\o.cls=.type "list"/\o.dict=none/\o.data=.seq its n/\its.size<=sizeLine/\aP xs its.toList
mutual
inductive a_ (K:kf) (H:Hp) (O:Addr->Prop):D->V->Prop
 |non:a_ K H O .non .non
 |bl (b:Bool):a_ K H O (.bl b) (.bl b)
 |int (i:Int):a_ K H O ↥i ↥i
 |str (s:Str):a_ K H O (.str s) (.str s)
 |tup {a:Addr} {vs:k6} {ds:k7}:H a=↑(.tup vs)->aK K H O ds vs->a_ K H O (.tup ds) (.ref a)
 |lst {a:Addr} {vs:k6} {ds:k7}:O a->Rd H a (.lst vs)->aK K H O ds vs->a_ K H O (.lst ds) (.ref a)
 |klst {a:Addr} {vs:k6} {ds:k7}:KL K a vs->aK K H O ds vs->a_ K H O (.lst ds) (.ref a)
 |dct {a:Addr} {ks:ik} {vs:k6} {ds:k7}:H a=↑(.dK (p_ ks vs))->aK K H O ds vs->a_ K H O (.dct ks ds) (.ref a)
 |exc (a:Addr):a_ K H O (.exc a) (.ref a)
inductive aK (K:kf) (H:Hp) (O:Addr->Prop):k7->k6->Prop
 |nil:aK K H O [] []
 |cons {d:D} {v:V} {ds:k7} {vs:k6}:a_ K H O d v->aK K H O ds vs->aK K H O (d::ds) (v::vs)
end
variable{vs:k6}{ds:k7}{O:Addr->Prop}
def aK.ind{P:k7->k6->Prop}(n:P [] [])(c:∀ {d v ds vs},a_ K H O d v->aK K H O ds vs->P ds vs->P (d::ds) (v::vs)):aK K H O ds vs->P ds vs :=
 aK.rec (motive_1:=λ_ _ _=>True) (motive_2:=λds vs _=>P ds vs) ⟨⟩ (λ_=>⟨⟩) (λ_=>⟨⟩) (λ_=>⟨⟩) (λ_ _ _=>⟨⟩) (λ_ _ _ _=>⟨⟩) (λ_ _ _=>⟨⟩) (λ_ _ _=>⟨⟩) (λ_=>⟨⟩) n λr t _=>c r t
variable{v:V}{O':Addr->Prop}
def a_.mono(D:∀a (u:Im),H a=↑u.out->H' a=↑u.out)(I:∀a vs,O a->Rd H a (.lst vs)->O' a/\Rd H' a (.lst vs)):a_ K H O d v->a_ K H' O' d v :=
 a_.rec (motive_1:=λd v _=>a_ K H' O' d v) (motive_2:=λds vs _=>aK K H' O' ds vs) .non .bl .int .str (λh _=>.tup (D _ (.t _) h)) (λo h _=>.lst (I _ _ o h).1 (I _ _ o h).2) (λh _=>.klst h) (λh _=>.dct (D _ (.d _) h)) .exc .nil λ_ _=>.cons
def aK.mono(I:∀a (u:Im),H a=↑u.out->H' a=↑u.out)(U:∀a vs,O a->Rd H a (.lst vs)->O' a/\Rd H' a (.lst vs)){ds:k7}{vs:k6}:aK K H O ds vs->aK K H' O' ds vs:=aK.ind .nil λr _=>.cons (r.mono I U)
def aK.length{ds:k7}{vs:k6}:aK K H O ds vs->ds.length=vs.length:=aK.ind (P:=λds vs=>ds.length=vs.length) rfl λ_ _=>congrArg Nat.succ
def aK.get(h:aK K H O ds vs):ds[i]?=↑d->∃v,vs[i]?=↑v/\a_ K H O d v :=
 aK.ind (P:=λds vs=>∀ {i:Nat},ds[i]?=↑d->∃v,vs[i]?=↑v/\a_ K H O d v) nofun (λr _ q i e=>match i with
  |0=>⟨_,rfl,cg e ▸ r⟩ |i+1=>q (i:=i) e) h
variable{es:i0}
def aK.append{es:k7}{ws:k6}(h:aK K H O ds vs)(s:aK K H O es ws):aK K H O (ds++es) (vs++ws):=aK.ind (P:=λds vs=>aK K H O (ds++es) (vs++ws)) s (λr _=>.cons r) h
def aK.take{ds:k7}{vs:k6}(n:Nat)(h:aK K H O ds vs):aK K H O (ds.take n) (vs.take n) :=
 aK.ind (P:=λds vs=>∀n,aK K H O (ds.take n) (vs.take n)) (λn=>by cases n <;> exact .nil) (λr _ q n=>by cases n;exact .nil;exact .cons r (q _)) h n
def aK.drop{ds:k7}{vs:k6}(n:Nat)(h:aK K H O ds vs):aK K H O (ds.drop n) (vs.drop n) :=
 aK.ind (P:=λds vs=>∀n,aK K H O (ds.drop n) (vs.drop n)) (λn=>by cases n <;> exact .nil) (λr t q n=>by cases n;exact .cons r t;exact q _) h n
def aK.set{d:D}{v:V}(r:a_ K H O d v){ds:k7}{vs:k6}(i:Nat)(h:aK K H O ds vs):aK K H O (ds.set i d) (vs.set i v) :=
 aK.ind (P:=λds vs=>∀i,aK K H O (ds.set i d) (vs.set i v)) (λ_=>.nil) (λp t q n=>by cases n;exact .cons r t;exact .cons p (q _)) h i
def aK.eraseIdx{ds:k7}{vs:k6}(i:Nat)(h:aK K H O ds vs):aK K H O (ds.eraseIdx i) (vs.eraseIdx i) :=
 aK.ind (P:=λds vs=>∀i,aK K H O (ds.eraseIdx i) (vs.eraseIdx i)) (λ_=>.nil) (λp t q n=>by cases n;exact t;exact .cons p (q _)) h i
def aK.dropLast(h:aK K H O ds vs):aK K H O ds.dropLast vs.dropLast:=by
 rw[pv,pv,h.length];exact h.take _
def a_.int_{i:Int}(h:a_ K H O ↥i v):v=.int i:=by cases h;rfl
def a_.bl_{i:Bool}(h:a_ K H O (.bl i) v):v=.bl i:=by cases h;rfl
def a_.str_{i:Str}(h:a_ K H O (.str i) v):v=.str i:=by cases h;rfl
def a_.exc_(h:a_ K H O (.exc a) v):v=.ref a:=by cases h;rfl
def a_.non_(h:a_ K H O .non v):v=.non:=by cases h;rfl
def a_.tup_(h:a_ K H O (.tup ds) v):∃a vs,v=.ref a/\H a=↑(.tup vs)/\aK K H O ds vs:=by cases h with |tup a b=>exact⟨_,_,rfl,a,b⟩
def gZ(K:kf)(H:Hp)(O:Addr->Prop)(a:Addr)(vs:k6):Prop:=(O a/\Rd H a (.lst vs))\/KL K a vs
def gZ.sq(h:gZ K H O a vs):dI K H a vs:=h.elim (λz=>.inl z.2) .inr
def a_.lst_(h:a_ K H O (.lst ds) v):∃a vs,v=.ref a/\gZ K H O a vs/\aK K H O ds vs:=by
 cases h with
 |lst o a b=>exact⟨_,_,rfl,.inl ⟨o,a⟩,b⟩ |klst a b=>exact⟨_,_,rfl,.inr a,b⟩
inductive Mo where
 |l (vs:k6) |i (C dx:Addr) (fs:List (Str×V))
@[reducible] noncomputable def Mo.out:Mo->HO | .l vs=>.lst vs | .i C dx fs=>.ins C dx fs
inductive Pt where
 |d (d:D) |o (ds:k7)
abbrev k9:=List Pt
inductive AK where
 |ls |ins (b:Bool) (c:Str) (fs:h6)
inductive Sl where
 |sh (d:D) |ow (ds:k7) |o2 (dss:List k7) |ag (k:AK) (r:Option Nat) (ps:k9) |al (r j:Nat) |ro (k:AK) (ps:k9)
abbrev la:=Option Sl
structure Gd where
 g:Addr->Prop
 r:Nat->ia
instance:CoeFun Gd (λ_=>Addr->Prop):=⟨Gd.g⟩
abbrev gd(g:Addr->Prop):Gd:=⟨g,λ_=>[]⟩
abbrev DE0:=List la
def Ow(G:Gd)(W:Addr->Prop):Addr->Prop:=λa=>G a/\¬W a
def yZ(K:kf)(G:Gd)(W:Addr->Prop)(H:Hp)(dss:List k7)(ls:ia):Prop :=
 ls.length=dss.length/\∀(j:Nat) (ds:k7) (a:Addr),dss[j]?=↑ds->ls[j]?=↑a->W a/\∃vs,H a=↑(.lst vs)/\aK K H (Ow G W) ds vs
inductive aW (K:kf) (G:Gd) (W:Addr->Prop) (H:Hp):k9->ia->k6->Prop
 |nil:aW K G W H [] [] []
 |d {d:D} {v:V} {ps:k9} {as:ia} {us:k6}:a_ K H (Ow G W) d v->aW K G W H ps as us->aW K G W H (.d d::ps) as (v::us)
 |o {ds:k7} {a:Addr} {vs:k6} {ps:k9} {as:ia} {us:k6}:W a->H a=↑(.lst vs)->aK K H (Ow G W) ds vs->aW K G W H ps as us->aW K G W H (.o ds::ps) (a::as) (.ref a::us)
inductive bH (K:kf) (G:Gd) (W:Addr->Prop) (H:Hp):k9->k6->Prop
 |nil:bH K G W H [] []
 |d {d:D} {v:V} {ps:k9} {us:k6}:a_ K H (Ow G W) d v->bH K G W H ps us->bH K G W H (.d d::ps) (v::us)
 |o {ds:k7} {a:Addr} {vs:k6} {ps:k9} {us:k6}:¬W a->H a=↑(.lst vs)->aK K H (Ow G W) ds vs->bH K G W H ps us->bH K G W H (.o ds::ps) (.ref a::us)
def eE(K:kf)(H:Hp):AK->Addr->k6->Prop
 | .ls,p,us=>H p=↑(.lst us) | .ins _ c fs,p,us=>∃C dx,PySem.W.nsIn K mainGlobals c=↑↑(.ref C)/\H p=↑(.ins C dx (fs.zip us))/\fs.length=us.length
def kR:AK->ia->Addr->ia->Prop
 | .ins true _ _,l,p,_=>l=[p]
 |_,l,p,as=>l=p::as
inductive qq (K:kf) (G:Gd) (W:Addr->Prop) (H:Hp) (ds:k7) (v:V):Prop
 |mk (l:Addr) (vs:k6) (e:v=.ref l) (w:W l) (h:H l=↑(.lst vs)) (r:aK K H (Ow G W) ds vs):qq K G W H ds v
inductive qA (K:kf) (G:Gd) (W:Addr->Prop) (H:Hp) (dss:List k7) (v:V):Prop
 |mk (l:Addr) (ls:ia) (e:v=.ref l) (w:W l) (h:H l=↑(.lst (ls.map V.ref))) (n:(l::ls).Nodup) (r:yZ K G W H dss ls):qA K G W H dss v
inductive qB (K:kf) (G:Gd) (W:Addr->Prop) (H:Hp) (k:AK) (r:Option Nat) (ps:k9) (v:V):Prop
 |mk (p:Addr) (as:ia) (us:k6) (e:v=.ref p) (w:W p) (n:(p::as).Nodup) (l:∀n,r=↑n->kR k (G.r n) p as) (h:eE K H k p us) (q:aW K G W H ps as us):qB K G W H k r ps v
def dW(K:kf)(G:Gd)(W:Addr->Prop)(H:Hp):Sl->V->Prop
 | .sh d,v=>a_ K H (Ow G W) d v | .ow ds,v=>qq K G W H ds v | .o2 dss,v=>qA K G W H dss v | .ag k r ps,v=>qB K G W H k r ps v | .al r j,v=>∃p as a,G.r r=p::as/\as[j]?=↑a/\v=.ref a | .ro k ps,v=>∃(p:Addr) (us:k6),v=.ref p/\¬W p/\eE K H k p us/\bH K G W H ps us
def tF:k9->k6->Addr->Prop:=λps us a=>∃(j:Nat) (ds:k7),ps[j]?=↑(.o ds)/\us[j]?=↑(.ref a)
def y_(H:Hp):AK->Addr->k6->Prop
 | .ls,p,us=>H p=↑(.lst us) | .ins _ _ fs,p,us=>fs.length=us.length/\∃C dx,H p=↑(.ins C dx (fs.zip us))
def bL(H:Hp):Sl->V->Addr->Prop
 | .sh _,_,_=>False | .ow _,v,a=>v=.ref a | .o2 _,v,a=>v=.ref a\/∃(l:Addr) (ls:ia),v=.ref l/\H l=↑(.lst (ls.map V.ref))/\a∈ls
 | .ag k _ ps,v,a=>v=.ref a\/∃(p:Addr) (us:k6),v=.ref p/\y_ H k p us/\tF ps us a | .al _ _,_,_=>False | .ro _ _,_,_=>False
structure Ok (K:kf) (G:Gd) (H0:Hp) (W:Addr->Prop) (env:DE0) (σ:St) (H:Hp):Prop where
 stay:bB H0 H
 good:∀a,H0 a=none->G a
 wl:∀l,W l->H0 l=none/\∃m:Mo,H l=↑m.out
 slot:∀(i:Nat) (s:Sl),env[i]?=↑↑s->∃v,σ[i]?=↑↑v/\dW K G W H s v
 uniq:∀(i j:Nat) (s s':Sl) (v v':V) (a:Addr),env[i]?=↑↑s->env[j]?=↑↑s'->σ[i]?=↑↑v->σ[j]?=↑↑v'->bL H s v a->bL H s' v' a->i=j
 len:env.length=σ.length
variable{ls:ia}
def lS{D:ia}(h:ls.map V.ref=D.map V.ref):ls=D:=by
 induction ls generalizing D with
 |nil=>cases D with |nil=>rfl |cons b r=>cases h
 |cons a t ih=>cases D with |nil=>cases h |cons b r=>simp[List.cons.injEq,V.ref.injEq] at h;rw[h.1,ih h.2]
variable{W:Addr->Prop}{G:Gd}{ps:k9}{as:ia}{us:k6}
def aW.own(h:aW K G W H ps as us)(ha:a∈as):W a/\∃vs,H a=↑(.lst vs):=by
 induction h with
 |nil=>cases ha
 |d _ _ ih=>exact ih ha |o hW hl _ _ ih =>
   rcases cr.mp ha with rfl |ha
   ·exact⟨hW,_,hl⟩
   ·exact ih ha
def aW.parts_iff(h:aW K G W H ps as us):tF ps us a↔a∈as:=by
 induction h with
 |nil=>exact⟨λ⟨j,ds,e,_⟩=>by simp at e,λz=>by cases z⟩
 |d _ _ ih =>
   rw[<-ih];constructor
   ·rintro⟨j,ds,I,D⟩
    cases j with
    |zero=>simp at I |succ j=>exact⟨j,ds,by simpa using I,by simpa using D⟩
   ·rintro⟨j,ds,I,D⟩
    exact⟨j+1,ds,by simpa using I,by simpa using D⟩
 |o _ _ _ _ ih =>
   rw[cr,<-ih];constructor
   ·rintro⟨j,ds,I,D⟩
    cases j with
    |zero=>simp at D;exact .inl D.symm |succ j=>exact .inr ⟨j,ds,by simpa using I,by simpa using D⟩
   ·rintro(rfl | ⟨j,ds,I,D⟩)
    ·exact⟨0,_,rfl,rfl⟩
    ·exact⟨j+1,ds,by simpa using I,by simpa using D⟩
variable{G':Gd}{W':Addr->Prop}
protected def aW.step(h:aW K G W H ps as us)(k:∀a vs,a∈as->H a=↑(.lst vs)->W' a/\H' a=↑(.lst vs))(r:∀d v,a_ K H (Ow G W) d v->a_ K H' (Ow G' W') d v)(D:∀ds vs,aK K H (Ow G W) ds vs->aK K H' (Ow G' W') ds vs):aW K G' W' H' ps as us:=by
 induction h with
 |nil=>exact .nil |d q _ ih=>exact .d (r _ _ q) (ih k) |o hW hl q _ ih =>
   obtain⟨I,U⟩:=k _ _ bi hl;exact .o I U (D _ _ q) (ih λa vs V=>k a vs (ay _ V))
protected def bH.step(h:bH K G W H ps us)(k:∀a vs,¬W a->H a=↑(.lst vs)->¬W' a/\H' a=↑(.lst vs))(r:∀d v,a_ K H (Ow G W) d v->a_ K H' (Ow G' W') d v)(D:∀ds vs,aK K H (Ow G W) ds vs->aK K H' (Ow G' W') ds vs):bH K G' W' H' ps us:=by
 induction h with
 |nil=>exact .nil |d q _ ih=>exact .d (r _ _ q) ih |o hW hl q _ ih=>obtain⟨I,U⟩:=k _ _ hW hl;exact .o I U (D _ _ q) ih
variable{j:Nat}
def bH.get(h:bH K G W H ps us)(e:ps[j]?=↑(.o ds)):∃a vs,us[j]?=↑(.ref a)/\¬W a/\H a=↑(.lst vs)/\aK K H (Ow G W) ds vs:=by
 induction h generalizing j with
 |nil=>simp at e |d _ _ ih =>
   cases j with
   |zero=>simp at e |succ j=>obtain⟨a,vs,h1,h2⟩:=ih (j:=j) (by simpa using e);exact⟨a,vs,by simpa using h1,h2⟩
 | @o _ a vs _ _ hW hl r _ ih =>
   cases j with
   |zero=>simp at e;subst e;exact⟨a,vs,rfl,hW,hl,r⟩ |succ j=>obtain⟨a,vs,h1,h2⟩:=ih (j:=j) (by simpa using e);exact⟨a,vs,by simpa using h1,h2⟩
def bH.getD(h:bH K G W H ps us)(e:ps[j]?=↑(.d d)):∃v,us[j]?=↑v/\a_ K H (Ow G W) d v:=by
 induction h generalizing j with
 |nil=>simp at e |d q _ ih =>
   cases j with
   |zero=>simp at e;subst e;exact⟨_,rfl,q⟩ |succ j=>obtain⟨a,h1,h2⟩:=ih (j:=j) (by simpa using e);exact⟨a,by simpa using h1,h2⟩
 |o _ _ _ _ ih =>
   cases j with
   |zero=>simp at e |succ j=>obtain⟨a,h1,h2⟩:=ih (j:=j) (by simpa using e);exact⟨a,by simpa using h1,h2⟩
variable{k:AK}{p:Addr}
theorem lT{D:k6}(h:eE K H k p us)(h':y_ H k p D):D=us:=by
 cases k with
 |ls=>have h:H p=_:=h;have h':H p=_:=h';rw[h] at h';cases h';rfl
 |ins b c fs =>
   obtain⟨C,dx,_,I,Y⟩:=h;obtain⟨l',Z,U,e⟩:=h';rw[I] at e;have e:fs.zip us=fs.zip D:=by injection e with e;injection e
   have:=congrArg (List.map Prod.snd) e;rw[nt ∅,nt ∅] at this;exact this.symm
protected def eE.o{K:kf}{H:Hp}{k:AK}{p:Addr}{us:k6}(h:eE K H k p us):y_ H k p us:=by
 cases k with
 |ls=>exact h |ins b c fs=>obtain⟨C,dx,_,D,I⟩:=h;exact⟨I,C,dx,D⟩
def eE.mo(h:eE K H k p us):∃m:Mo,H p=↑m.out/\∀H',H' p=↑m.out->eE K H' k p us:=by
 cases k with
 |ls=>exact⟨.l us,h,λH' e=>e⟩ |ins b c fs=>obtain⟨C,dx,D,I,U⟩:=h;exact⟨.i C dx (fs.zip us),I,λH' e=>⟨C,dx,D,e,U⟩⟩
def dW.owns(h:dW K G W H s v)(o:bL H s v a):W a:=by
 cases s with
 |sh d=>exact o.elim |ow ds=>obtain⟨l,vs,e,D,_⟩:=h;rw[show v=.ref a from o] at e;cases e;exact D
 |o2 dss =>
   obtain⟨l,ls,e,D,Y,nd,hi⟩:=h;rcases o with o | ⟨l',ls',e',hl',ha⟩
   ·rw[o] at e;cases e;exact D
   ·rw[e] at e';cases e'
    rw[Y] at hl';have:=lS (by simpa using hl');subst this;obtain⟨j,U,Z⟩:=md ha;have I:j<dss.length:=by rw[<-hi.1];exact U
    exact(hi.2 j dss[j] a (by simp[I]) (by simp[U,Z])).1
 |ag k r ps =>
   obtain⟨p,as,us,e,D,nd,c,b,V⟩:=h;rcases o with o | ⟨p',us',e',hk',ha⟩
   ·rw[o] at e;cases e;exact D
   ·rw[e] at e';cases e'
    rw[lT b hk'] at ha;exact(V.own (V.parts_iff.mp ha)).1
 |al _ _=>exact o.elim |ro _ _=>exact o.elim
def dW.back(h:dW K G W H s v)(k:∀l,v=.ref l->W l->∀m:Mo,H l=↑m.out->H' l=↑m.out)(o:bL H' s v a):bL H s v a:=by
 cases s with
 |sh d=>exact o.elim |ow ds=>exact o |o2 dss =>
   obtain⟨l,ls,e,D,I,nd,hi⟩:=h;rcases o with o | ⟨l',ls',e',hl',ha⟩
   ·exact .inl o
   ·rw[e] at e';cases e'
    rw[k l e D (.l _) I] at hl';have:=lS (by simpa using hl');subst this;exact .inr ⟨l,ls,e,I,ha⟩
 |ag q r ps =>
   obtain⟨p,as,us,e,D,nd,Z,U,b⟩:=h;rcases o with o | ⟨p',us',e',hk',ha⟩
   ·exact .inl o
   ·rw[e] at e';cases e'
    obtain⟨m,V,Y⟩:=U.mo;rw[lT (Y H' (k p e D m V)) hk'] at ha;exact .inr ⟨p,us,e,U.o,ha⟩
 |al _ _=>exact o.elim |ro _ _=>exact o.elim
structure Step (W:Addr->Prop) (H:Hp) (W':Addr->Prop) (H':Hp):Prop where
 keep:∀b o,H b=↑o->¬W b->H' b=↑o
 ws:∀l,W' l->W l\/H l=none
def Step.refl:Step W H W H:=⟨λ_ _ e _=>e,λ_ h=>.inl h⟩
variable{W1:Addr->Prop}
def Step.trans{D:Addr->Prop}(a:Step W H W1 H1)(b:Step W1 H1 D H2):Step W H D H2 where
 keep:=λc o e n=>b.keep c o (a.keep c o e n) λz=>(a.ws c z).elim n λq=>by rw[q] at e;cases e
 ws:=λl h=>by
  rcases b.ws l h with z |z
  ·exact a.ws l z
  ·by_cases n:W l
   ·exact .inl n
   ·cases e:H l with
    |none=>exact .inr rfl |some o=>rw[a.keep l o e n] at z;cases z
def Step.same(h:bB H H'):Step W H W H':=⟨λb o e _=>h b o e,λ_ h=>.inl h⟩
variable{env:DE0}{H0:Hp}
def Ok.wkeep(ok:Ok K G H0 W env σ H)(st:Step W H W' H'):∀b o,H b=↑o->(∀m:Mo,o≠m.out)->H' b=↑o:=λb o e n =>
 st.keep b o e λz=>by obtain⟨_,m,q⟩:=ok.wl b z;rw[e] at q;exact n m (cg q)
def Rd.keep{u:HO}(h:Rd H a u)(k:∀o,H a=↑o->H' a=↑o):Rd H' a u:=by
 rcases h with h | ⟨o,h⟩
 ·exact .inl (k _ h)
 ·exact .inr ⟨o,k _ h⟩
def Ok.tstep(ok:Ok K G H0 W env σ H)(st:Step W H W' H'):∀a vs,H a=↑(.tup vs)->H' a=↑(.tup vs):=λ_ _ h=>ok.wkeep st _ _ h λm z=>by cases m <;> cases z
def Ok.istep(ok:Ok K G H0 W env σ H)(st:Step W H W' H'):∀a (u:Im),H a=↑u.out->H' a=↑u.out:=λ_ u h=>ok.wkeep st _ _ h λm z=>by cases u <;> cases m <;> cases z
def Ok.lstep(ok:Ok K G H0 W env σ H)(st:Step W H W' H'):∀a vs,Ow G W a->Rd H a (.lst vs)->Ow G W' a/\Rd H' a (.lst vs):=λa vs o h=>by
 refine⟨⟨o.1,λz=>?_⟩,h.keep λu e=>st.keep a u e o.2⟩;rcases st.ws a z with q |q
 ·exact o.2 q
 ·rcases h with h | ⟨_,h⟩ <;> rw[q] at h <;> cases h
def Ok.lsstep(ok:Ok K G H0 W env σ H)(st:Step W H W' H')(h:gZ K H (Ow G W) a vs):gZ K H' (Ow G W') a vs:=h.elim (λz=>.inl (ok.lstep st a vs z.1 z.2)) .inr
def Ok.rep(ok:Ok K G H0 W env σ H)(st:Step W H W' H')(r:a_ K H (Ow G W) d v):a_ K H' (Ow G W') d v:=r.mono (ok.istep st) (ok.lstep st)
def Ok.reps(ok:Ok K G H0 W env σ H)(st:Step W H W' H'){d:k7}{v:k6}(r:aK K H (Ow G W) d v):aK K H' (Ow G W') d v:=r.mono (ok.istep st) (ok.lstep st)
def Ok.slstep(ok:Ok K G H0 W env σ H)(st:Step W H W' H')(h:dW K G W H s v)(k:∀a (m:Mo),bL H s v a->H a=↑m.out->W' a/\H' a=↑m.out):dW K G W' H' s v:=by
 cases s with
 |sh d=>exact ok.rep st h |ow ds =>
   obtain⟨l,vs,e,I,V,r⟩:=h;obtain⟨h1,h2⟩:=k l (.l vs) e V;exact⟨l,vs,e,h1,h2,ok.reps st r⟩
 |o2 dss =>
   obtain⟨l,ls,e,I,V,nd,hi⟩:=h;obtain⟨h1,h2⟩:=k l (.l _) (.inl e) V;have i:∀a vs,a∈ls->H a=↑(.lst vs)->W' a/\H' a=↑(.lst vs):=λa vs U D=>k a (.l vs) (.inr ⟨l,ls,e,V,U⟩) D;refine⟨l,ls,e,h1,h2,nd,hi.1,λj ds a t D=>?_⟩;obtain⟨_,vs,U,u⟩:=hi.2 j ds a t D;obtain⟨k1,k2⟩:=i a vs (bc D) U;exact⟨k1,vs,k2,ok.reps st u⟩
 |ag q r ps =>
   obtain⟨p,as,us,e,I,nd,w,Y,Z⟩:=h;obtain⟨m,b,c⟩:=Y.mo;obtain⟨h1,h2⟩:=k p m (.inl e) b;exact⟨p,as,us,e,h1,nd,w,c H' h2,Z.step (λa vs U D=>k a (.l vs) (.inr ⟨p,us,e,Y.o,Z.parts_iff.mpr U⟩) D) (λ_ _ r=>ok.rep st r) λ_ _ r=>ok.reps st r⟩
 |al _ _=>exact h |ro q ps =>
   obtain⟨p,us,e,I,Y,Z⟩:=h;have f:∀a o,¬W a->H a=↑o->¬W' a:=λa o n e z=>(st.ws a z).elim n λy=>by rw[y] at e;cases e
   obtain⟨m,b,c⟩:=Y.mo;exact⟨p,us,e,f p _ I b,c H' (st.keep p _ b I),Z.step (λa vs g D=>⟨f a _ g D,st.keep a _ D g⟩) (λ_ _ r=>ok.rep st r) λ_ _ r=>ok.reps st r⟩
def Ok.same(ok:Ok K G H0 W env σ H)(s:bB H H'):Ok K G H0 W env σ H':=by
 have st:Step W H W H':=Step.same s;have bk:∀ {i:Nat} {sl:Sl} {v:V} {a:Addr},env[i]?=↑↑sl->σ[i]?=↑↑v->bL H' sl v a->bL H sl v a:=λ{i sl v a} e I o=>by
  obtain⟨f,D,h⟩:=ok.slot i sl e;rw[I] at D;cases D;exact h.back (λl _ _ vs q=>s l _ q) o
 refine⟨ok.stay.trans s,ok.good,λl h=>?_,λi sl e=>?_,λi j Z s2 v1 v2 a I D U Y c d=>ok.uniq i j Z s2 v1 v2 a I D U Y (bk I U c) (bk D Y d),ok.len⟩
 ·obtain⟨a,vs,b⟩:=ok.wl l h
  exact⟨a,vs,s _ _ b⟩
 ·obtain⟨v,I,h⟩:=ok.slot i sl e
  exact⟨v,I,ok.slstep st h λa vs o D=>⟨h.owns o,s _ _ D⟩⟩
def lU{o:HO}(h:H a=none):bB H (aV H a o):=λb u e=>by rw[jo (sw e h)];exact e
def cF(W:Addr->Prop)(l:Addr):Addr->Prop:=λa=>W a\/a=l
def Ok.fresh0(ok:Ok K G H0 W env σ H)(s:bB H H')(D:H l=none)(I:H' l=↑(.lst vs)) :
  ¬W l/\H0 l=none/\Ok K G H0 (cF W l) env σ H'/\Step W H (cF W l) H':=by
 have V:H0 l=none:=ok.stay.free D;have Y:¬W l:=λz=>by obtain⟨_,vs,q⟩:=ok.wl l z;rw[D] at q;cases q
 have st:Step W H (cF W l) H':=⟨λb o e _=>s b o e,λa z=>z.elim .inl λq=>.inr (by rw[q];exact D)⟩;have U:=ok.same s;refine⟨Y,V,⟨ok.stay.trans s,ok.good,λa z=>?_,λi sl e=>?_,U.uniq,ok.len⟩,st⟩
 ·rcases z with z |rfl
  ·obtain⟨q,us,b⟩:=ok.wl a z
   exact⟨q,us,s _ _ b⟩
  ·exact⟨V,.l vs,I⟩
 ·obtain⟨v,Z,h⟩:=ok.slot i sl e
  exact⟨v,Z,ok.slstep st h λa vs o c=>⟨.inl (h.owns o),s _ _ c⟩⟩
def Ok.fresh(ok:Ok K G H0 W env σ H)(s:bB H H')(D:H l=none)(I:H' l=↑(.lst vs))(r:aK K H' (λa=>(Ow G W a\/H a=none)/\a≠l) ds vs) :
  ¬W l/\H0 l=none/\Ok K G H0 (cF W l) env σ H'/\aK K H' (Ow G (cF W l)) ds vs/\Step W H (cF W l) H':=by
 have V:H0 l=none:=ok.stay.free D;have Y:¬W l:=λz=>by obtain⟨_,vs,q⟩:=ok.wl l z;rw[D] at q;cases q
 have st:Step W H (cF W l) H':=⟨λb o e _=>s b o e,λa z=>z.elim .inl λq=>.inr (by rw[q];exact D)⟩;have Z:∀a,W a->H a≠none:=λa z q=>by obtain⟨_,vs,e⟩:=ok.wl a z;rw[q] at e;cases e
 have U:=ok.same s;refine⟨Y,V,⟨ok.stay.trans s,ok.good,λa z=>?_,λi sl e=>?_,U.uniq,ok.len⟩,r.mono (λ_ _ h=>h) λa us o h=>⟨⟨?_,?_⟩,h⟩,st⟩
 ·rcases z with z |rfl
  ·obtain⟨q,us,b⟩:=ok.wl a z
   exact⟨q,us,s _ _ b⟩
  ·exact⟨V,.l vs,I⟩
 ·obtain⟨v,c,h⟩:=ok.slot i sl e
  exact⟨v,c,ok.slstep st h λa vs o d=>⟨.inl (h.owns o),s _ _ d⟩⟩
 ·rcases o.1 with q |q
  ·exact q.1
  ·exact ok.good a (ok.stay.free q)
 ·rintro(z |z)
  ·rcases o.1 with q |q
   ·exact q.2 z
   ·exact Z a z q
  ·exact o.2 z
def Ok.noOwn(ok:Ok K G H0 W env σ H)(I:¬W l):∀(j:Nat) (s:Sl) (v:V),env[j]?=↑↑s->σ[j]?=↑↑v->¬bL H s v l:=λj s v e U o=>by
 obtain⟨Y,D,h⟩:=ok.slot j s e;rw[U] at D;cases D;exact I (h.owns o)
variable{α:Type}
def zv{N:List α}(D:N.Nodup){x:α}(a:N[i]?=↑x)(b:N[j]?=↑x):i=j:=by
 obtain⟨h1,I⟩:=aj.mp a;obtain⟨h2,U⟩:=aj.mp b;exact(List.getElem_inj D).mp (I.trans U.symm)
theorem t0{xs:List α}{x y:α}(h:(xs.set i x)[j]?=↑y):(i=j/\y=x/\i<xs.length)\/(i≠j/\xs[j]?=↑y):=by
 by_cases D:i=j
 ·subst D
  by_cases hi:i<xs.length
  ·rw[fx hi] at h;cases h;exact .inl ⟨rfl,rfl,hi⟩
  ·rw[de (by rw[d9];lia)] at h;cases h
 ·rw[d8 D] at h;exact .inr ⟨D,h⟩
def Ok.put(ok:Ok K G H0 W env σ H)(h:dW K G W H s v)(d:∀(j:Nat) (s':Sl) (f:V) (a:Addr),env[j]?=↑↑s'->σ[j]?=↑↑f->bL H s v a->¬bL H s' f a) :
  Ok K G H0 W (env.set i ↑s) (σ.set i ↑v) H:=by
 refine⟨ok.stay,ok.good,ok.wl,λj sl e=>?_,λj k g s2 v1 v2 a Z l D I b c=>?_,by rw[d9,d9,ok.len]⟩
 ·rcases t0 e with⟨rfl,q,hi⟩ | ⟨hj,q⟩
  ·cases q
   exact⟨v,fx (by rw[<-ok.len];exact hi),h⟩
  ·obtain⟨u,Z,r⟩:=ok.slot j sl q
   exact⟨u,by rw[d8 hj];exact Z,r⟩
 ·rcases t0 Z with⟨a1,b1,c1⟩ | ⟨a1,b1⟩ <;> rcases t0 l with⟨U,Y,m⟩ | ⟨U,Y⟩
  ·rw[<-a1,<-U]
  ·subst a1
   cases b1;rw[fx (by rw[<-ok.len];exact c1)] at D;cases D;rw[d8 U] at I;exact absurd c (d k s2 v2 a Y I b)
  ·subst U
   cases Y;rw[fx (by rw[<-ok.len];exact m)] at I;cases I;rw[d8 a1] at D;exact absurd b (d j g v1 a b1 D c)
  ·rw[d8 a1] at D
   rw[d8 U] at I;exact ok.uniq j k g s2 v1 v2 a b1 Y D I b c
def Ok.set(ok:Ok K G H0 W env σ H)(r:a_ K H (Ow G W) d v):Ok K G H0 W (env.set i ⇑d) (σ.set i ↑v) H :=
 ok.put (s:=.sh d) r λ_ _ _ _ _ _ o=>o.elim
def Ok.setO(ok:Ok K G H0 W env σ H)(D:W l)(I:H l=↑(.lst vs))(r:aK K H (Ow G W) ds vs)(U:∀(j:Nat) (s:Sl) (v:V),env[j]?=↑↑s->σ[j]?=↑↑v->¬bL H s v l) :
  Ok K G H0 W (env.set i ↑(.ow ds)) (σ.set i ↑(.ref l)) H :=
 ok.put (s:=.ow ds) ⟨l,vs,rfl,D,I,r⟩ λj s' Y a e Z o=>by
  have:l=a:=by have o:V.ref l=V.ref a:=o;simpa using o
  subst this;exact U j s' Y e Z
def Ok.let(ok:Ok K G H0 W env σ H)(e:env[i]?=↑↑s)(Z:σ[i]?=↑↑v)(W':Addr->Prop)(I:∀a,W' a↔W a/\¬bL H s v a)(r:a_ K H (Ow G W') d v) :
  Step W H W' H/\Ok K G H0 W' (env.set i ⇑d) σ H:=by
 have st:Step W H W' H:=⟨λb o q _=>q,λa z=>.inl ((I a).mp z).1⟩;refine⟨st,⟨ok.stay,ok.good,λa z=>ok.wl a ((I a).mp z).1,λj sl q=>?_,λj k l s2 v1 v2 a m U n p c f=>?_,by rw[d9,ok.len]⟩⟩
 ·rcases t0 q with⟨rfl,D,_⟩ | ⟨hj,D⟩
  ·cases D
   exact⟨v,Z,r⟩
  ·obtain⟨u,g,h⟩:=ok.slot j sl D
   exact⟨u,g,ok.slstep st h λa vs o U=>⟨(I a).mpr ⟨h.owns o,λz=>hj (ok.uniq i j s sl v u a e D Z g z o)⟩,U⟩⟩
 ·rcases t0 m with⟨_,V,_⟩ | ⟨a1,V⟩
  ·cases V;exact c.elim
  ·rcases t0 U with⟨_,Y,_⟩ | ⟨a2,Y⟩
   ·cases Y;exact f.elim
   ·exact ok.uniq j k l s2 v1 v2 a V Y n p c f
def Ok.share(ok:Ok K G H0 W env σ H)(e:env[i]?=↑↑(.ow ds)) :
  ∃W' v,σ[i]?=↑↑v/\Step W H W' H/\Ok K G H0 W' (env.set i ⇑(.lst ds)) σ H/\a_ K H (Ow G W') (.lst ds) v:=by
 obtain⟨v,I,l,vs,rfl,V,Y,r⟩:=ok.slot i _ e;have U:a_ K H (Ow G λa=>W a/\¬bL H (.ow ds) (.ref l) a) (.lst ds) (.ref l) :=
  .lst ⟨ok.good l (ok.wl l V).1,λz=>z.2 rfl⟩ (.inl Y) (r.mono (λ_ _ h=>h) λa us o h=>⟨⟨o.1,λz=>o.2 z.1⟩,h⟩)
 obtain⟨st,D⟩:=ok.let e I _ (λa=>Iff.rfl) U;exact⟨_,.ref l,I,st,D,U⟩
def z4:∀ {dss:List k7} {ls:ia},yZ K G W H dss ls->(∀a,a∈ls->W a->G a/\¬W' a)->(∀ds vs,aK K H (Ow G W) ds vs->aK K H (Ow G W') ds vs)->aK K H (Ow G W') (dss.map D.lst) (ls.map V.ref)
 | [],[],_,_,_=>.nil |ds::dss,a::ls,h,g,r=>by
   obtain⟨Y,vs,Z,b⟩:=h.2 0 ds a rfl rfl;refine .cons (.lst (g a bi Y) (.inl Z) (r _ _ b)) (z4 (dss:=dss) (ls:=ls) ⟨oh h.1,λj ds' I c d=>h.2 (j+1) ds' I (by simpa using c) (by simpa using d)⟩ (λI U=>g I (ay _ U)) r)
variable{dss:List k7}
def Ok.share2(ok:Ok K G H0 W env σ H)(e:env[i]?=↑↑(.o2 dss)) :
  ∃W' v,σ[i]?=↑↑v/\Step W H W' H/\Ok K G H0 W' (env.set i ⇑(.lst (dss.map D.lst))) σ H/\a_ K H (Ow G W') (.lst (dss.map D.lst)) v:=by
 obtain⟨v,U,l,ls,rfl,Z,V,nd,hi⟩:=ok.slot i _ e;have Y:a_ K H (Ow G λa=>W a/\¬bL H (.o2 dss) (.ref l) a) (.lst (dss.map D.lst)) (.ref l) :=
  .lst ⟨ok.good l (ok.wl l Z).1,λz=>z.2 (.inl rfl)⟩ (.inl V) (z4 hi (λa b c=>⟨ok.good a (ok.wl a c).1,λz=>z.2 (.inr ⟨l,ls,rfl,V,b⟩)⟩) λds vs r=>r.mono (λ_ _ h=>h) λa us o h=>⟨⟨o.1,λz=>o.2 z.1⟩,h⟩)
 obtain⟨st,I⟩:=ok.let e U _ (λa=>Iff.rfl) Y;exact⟨_,.ref l,U,st,I,Y⟩
def Ok.chg(ok:Ok K G H0 W env σ H){s':Sl}(U:Mo)(e:env[i]?=↑↑s)(t:σ[i]?=↑↑v)(y:bL H s v a)(A:dW K G W (aV H a U.out) s' v)(w:∀b,bL (aV H a U.out) s' v b->bL H s v b):Ok K G H0 W (env.set i ↑s') σ (aV H a U.out)/\Step W H W (aV H a U.out):=by
 have f:W a:=by obtain⟨N,g,h⟩:=ok.slot i s e;rw[t] at g;cases g;exact h.owns y
 have st:Step W H W (aV H a U.out):=⟨λb o q n=>by rw[jo (λz:b=a=>n (by rw[z];exact f))];exact q,λb z=>.inl z⟩;have x:∀ {j:Nat} {sl:Sl} {u:V} {b:Addr},i≠j->env[j]?=↑↑sl->σ[j]?=↑↑u->bL H sl u b->b≠a:=λ{j sl u b} hj q D o z=>by
  subst z;exact hj (ok.uniq i j s sl v u b e q t D y o)
 have bk:∀ {j:Nat} {sl:Sl} {u:V} {b:Addr},i≠j->env[j]?=↑↑sl->σ[j]?=↑↑u->bL (aV H a U.out) sl u b->bL H sl u b:=λ{j sl u b} hj q D o=>by
  obtain⟨O,Y,h⟩:=ok.slot j sl q;rw[D] at Y;cases Y;cases sl with
  |sh d=>exact o.elim |ow ds=>exact o |o2 dss=>exact h.back (λl Z _ vs c=>by rw[jo (x hj q D (.inl Z))];exact c) o |ag k p ps=>exact h.back (λl Z _ vs c=>by rw[jo (x hj q D (.inl Z))];exact c) o |al _ _=>exact o.elim |ro _ _=>exact o.elim
 refine⟨⟨λb o q=>?_,ok.good,λb z=>?_,λj sl q=>?_,λj k P s2 v1 v2 b D Y Z c B o2=>?_,by rw[d9,ok.len]⟩,st⟩
 ·rw[jo (λz=>by rw[z,(ok.wl a f).1] at q;cases q)];exact ok.stay b o q
 ·obtain⟨q,us,w⟩:=ok.wl b z
  by_cases h:b=a
  ·exact⟨q,U,by rw[h,m6]⟩
  ·exact⟨q,us,by rw[jo h];exact w⟩
 ·rcases t0 q with⟨rfl,I,_⟩ | ⟨hj,I⟩
  ·cases I
   exact⟨v,t,A⟩
  ·obtain⟨u,g,h⟩:=ok.slot j sl I
   exact⟨u,g,ok.slstep st h λb vs o Y=>⟨h.owns o,by rw[jo (x hj I g o)];exact Y⟩⟩
 ·have back:∀ {m:Nat} {sl:Sl} {u:V},(env.set i ↑s')[m]?=↑↑sl->σ[m]?=↑↑u->bL (aV H a U.out) sl u b->∃r,env[m]?=↑↑r/\bL H r u b:=λ{m sl u} q D o=>by
   rcases t0 q with⟨rfl,I,_⟩ | ⟨hj,I⟩
   ·cases I
    rw[t] at D;cases D;exact⟨s,e,w b o⟩
   ·exact⟨sl,I,bk hj I D o⟩
  obtain⟨C,E,F⟩:=back D Z B;obtain⟨J,L,M⟩:=back Y c o2;exact ok.uniq j k C J v1 v2 b E L Z c F M
variable{ds':k7}{vs':k6}
def Ok.turn(ok:Ok K G H0 W env σ H)(e:env[i]?=↑↑(.ow ds))(I:σ[i]?=↑↑(.ref l))(r:aK K H (Ow G W) ds' vs') :
  Ok K G H0 W (env.set i ↑(.ow ds')) σ (aV H l (.lst vs'))/\Step W H W (aV H l (.lst vs')):=by
 obtain⟨v,D,l',vs,rfl,U,V,_⟩:=ok.slot i _ e;rw[I] at D;cases D;have st:Step W H W (aV H l (.lst vs')):=⟨λb o q n=>by rw[jo (λz:b=l=>n (by rw[z];exact U))];exact q,λb z=>.inl z⟩;exact ok.chg (.l vs') e I (show bL H (.ow ds) (.ref l) l from rfl) ⟨l,vs',rfl,U,m6,ok.reps st r⟩ λb o=>o
def Ok.turn2(ok:Ok K G H0 W env σ H)(e:env[i]?=↑↑(.o2 dss))(s:σ[i]?=↑↑(.ref l))(Z:H l=↑(.lst (ls.map V.ref)))(u:dss[j]?=↑ds)(c:ls[j]?=↑a)(r:aK K H (Ow G W) ds' vs'):Ok K G H0 W (env.set i ↑(.o2 (dss.set j ds'))) σ (aV H a (.lst vs'))/\Step W H W (aV H a (.lst vs')):=by
 obtain⟨v,D,l',f,rfl,w,I,nd,hi⟩:=ok.slot i _ e;rw[s] at D;cases D;rw[Z] at I;have:=lS (by simpa using I);subst this;have t:a∈ls:=bc c;have U:W a:=(hi.2 j ds a u c).1;have st:Step W H W (aV H a (.lst vs')):=⟨λb o q n=>by rw[jo (λz:b=a=>n (by rw[z];exact U))];exact q,λb z=>.inl z⟩;have g:l≠a:=λz=>by subst z;exact(ci.mp nd).1 t
 have Y:aV H a (.lst vs') l=↑(.lst (ls.map V.ref)):=by rw[jo g];exact Z
 refine ok.chg (.l vs') e s (.inr ⟨l,ls,rfl,Z,t⟩) ⟨l,ls,rfl,w,Y,nd,by rw[d9];exact hi.1,λk es b x d=>?_⟩ λb o=>?_
 ·rcases t0 x with⟨rfl,z,_⟩ | ⟨hk,q'⟩
  ·cases z
   rw[c] at d;cases d;exact⟨U,vs',m6,ok.reps st r⟩
  ·obtain⟨h,us,m,y⟩:=hi.2 k es b q' d
   refine⟨h,us,?_,ok.reps st y⟩;have p:b≠a:=λz=>hk (by
    subst z;exact zv (ci.mp nd).2 c d)
   rw[jo p];exact m
 ·rcases o with o | ⟨l',f,z,q,m⟩
  ·exact .inl o
  ·cases z
   rw[Y] at q;have:=lS (by simpa using q);subst this;exact .inr ⟨l,ls,rfl,Z,m⟩
def aW.get(h:aW K G W H ps as us)(e:ps[j]?=↑(.o ds)):∃a vs,us[j]?=↑(.ref a)/\a∈as/\W a/\H a=↑(.lst vs)/\aK K H (Ow G W) ds vs:=by
 induction h generalizing j with
 |nil=>simp at e |d _ _ ih =>
   cases j with
   |zero=>simp at e |succ j=>obtain⟨a,vs,h1,h2⟩:=ih (j:=j) (by simpa using e);exact⟨a,vs,by simpa using h1,h2⟩
 | @o _ a vs _ _ _ hW hl r _ ih =>
   cases j with
   |zero=>simp at e;subst e;exact⟨a,vs,rfl,bi,hW,hl,r⟩ |succ j=>obtain⟨a,vs,h1,h2,D⟩:=ih (j:=j) (by simpa using e);exact⟨a,vs,by simpa using h1,ay _ h2,D⟩
def aW.getD(h:aW K G W H ps as us)(e:ps[j]?=↑(.d d)):∃v,us[j]?=↑v/\a_ K H (Ow G W) d v:=by
 induction h generalizing j with
 |nil=>simp at e |d q _ ih =>
   cases j with
   |zero=>simp at e;subst e;exact⟨_,rfl,q⟩ |succ j=>obtain⟨a,h1,h2⟩:=ih (j:=j) (by simpa using e);exact⟨a,by simpa using h1,h2⟩
 |o _ _ _ _ ih =>
   cases j with
   |zero=>simp at e |succ j=>obtain⟨a,h1,h2⟩:=ih (j:=j) (by simpa using e);exact⟨a,by simpa using h1,h2⟩
def aW.set(st:Step W H W (aV H a (.lst vs')))(ok:Ok K G H0 W env σ H)(h:aW K G W H ps as us)(nd:as.Nodup)(e:ps[j]?=↑(.o ds))(D:us[j]?=↑(.ref a))(r:aK K H (Ow G W) ds' vs') :
  aW K G W (aV H a (.lst vs')) (ps.set j (.o ds')) as us:=by
 induction h generalizing j with
 |nil=>simp at e |d q t ih =>
   cases j with
   |zero=>simp at e |succ j=>exact .d (ok.rep st q) (ih nd (by simpa using e) (by simpa using D))
 | @o es b vs ps' as' us' hW hl q t ih =>
   cases j with
   |zero =>
     simp at D;subst D;refine .o hW m6 (ok.reps st r) (t.step (λb vs I D=>⟨(t.own I).1,?_⟩) (λ_ _ r=>ok.rep st r) λ_ _ r=>ok.reps st r);rw[jo (λz:b=_=>by subst z;exact(ci.mp nd).1 I)];exact D
   |succ j =>
     have U:a∈as':=t.parts_iff.mp ⟨j,ds,e,D⟩;have V:b≠a:=λz=>by subst z;exact(ci.mp nd).1 U
     exact .o hW (by rw[jo V];exact hl) (ok.reps st q) (ih (ci.mp nd).2 e D)
variable{b:Expr}
def Ki{b:Addr}(e:ps[j]?=↑(.o ds))(h:tF (ps.set j (.o ds')) us b):tF ps us b:=by
 obtain⟨i,es,h1,h2⟩:=h;rcases t0 h1 with⟨rfl,_,_⟩ | ⟨_,z⟩
 ·exact⟨j,ds,e,h2⟩
 ·exact⟨i,es,z,h2⟩
variable{r:Option Nat}
def Ok.turnP(ok:Ok K G H0 W env σ H)(e:env[i]?=↑↑(.ag k r ps))(s:σ[i]?=↑↑(.ref p))(U:eE K H k p us)(V:ps[j]?=↑(.o ds))(Y:us[j]?=↑(.ref a))(u:aK K H (Ow G W) ds' vs') :
  Ok K G H0 W (env.set i ↑(.ag k r (ps.set j (.o ds')))) σ (aV H a (.lst vs'))/\Step W H W (aV H a (.lst vs')):=by
 obtain⟨v,D,p',as,Z,rfl,w,nd,x,c,d⟩:=ok.slot i _ e;rw[s] at D;cases D;have:=lT c U.o;subst this;have t:a∈as:=d.parts_iff.mp ⟨j,ds,V,Y⟩;have f:=(d.own t).1;have st:Step W H W (aV H a (.lst vs')):=⟨λb o q n=>by rw[jo (λz:b=a=>n (by rw[z];exact f))];exact q,λb z=>.inl z⟩;have g:p≠a:=λz=>by subst z;exact(ci.mp nd).1 t
 have h:=aW.set st ok d (ci.mp nd).2 V Y u;obtain⟨m,y,A⟩:=U.mo;have I:eE K (aV H a (.lst vs')) k p us:=A _ (by rw[jo g];exact y);refine ok.chg (.l vs') e s (.inr ⟨p,us,rfl,U.o,j,ds,V,Y⟩) ⟨p,as,us,rfl,w,nd,x,I,h⟩ λb o=>?_;rcases o with o | ⟨p',Z,z,q,hb⟩
 ·exact .inl o
 ·cases z
  rw[lT I q] at hb;exact .inr ⟨p,us,rfl,U.o,Ki V hb⟩
variable{d':D}
def Ok.turnD(ok:Ok K G H0 W env σ H){D:V}(e:env[i]?=↑↑(.ag .ls r ps))(u:σ[i]?=↑↑(.ref p))(w:H p=↑(.lst us))(x:ps[j]?=↑(.d d))(y:a_ K H (Ow G W) d' D) :
  Ok K G H0 W (env.set i ↑(.ag .ls r (ps.set j (.d d')))) σ (aV H p (.lst (us.set j D)))/\Step W H W (aV H p (.lst (us.set j D))):=by
 obtain⟨v,Y,p',as,U,rfl,a,nd,A,I,g⟩:=ok.slot i _ e;rw[u] at Y;cases Y;have I:H p=↑(.lst U):=I;rw[w] at I;cases I;have st:Step W H W (aV H p (.lst (us.set j D))):=⟨λb o q n=>by rw[jo (λz:b=p=>n (by rw[z];exact a))];exact q,λb z=>.inl z⟩;have k:=ok.rep st y;have s:aW K G W (aV H p (.lst (us.set j D))) ps as us:=g.step (λb vs c B=>⟨(g.own c).1,by rw[jo (λz:b=p=>by subst z;exact(ci.mp nd).1 c)];exact B⟩) (λ_ _ r=>ok.rep st r) λ_ _ r=>ok.reps st r;have go:∀ {f:k9} {bs:ia} {ws:k6} (m:Nat),aW K G W (aV H p (.lst (us.set j D))) f bs ws->f[m]?=↑(.d d)->aW K G W (aV H p (.lst (us.set j D))) (f.set m (.d d')) bs (ws.set m D):=by
  intro f bs ws m h;induction h generalizing m with
  |nil=>intro e;simp at e
  |d q t ih =>
    intro e;cases m with
    |zero=>exact .d k t |succ m=>exact .d q (ih m (by simpa using e))
  |o a hl q t ih =>
    intro e;cases m with
    |zero=>simp at e |succ m=>exact .o a hl q (ih m (by simpa using e))
 have Z:=go j s x;refine ok.chg (.l (us.set j D)) e u (.inl rfl) ⟨p,as,us.set j D,rfl,a,nd,A,m6,Z⟩ λb o=>?_;rcases o with o | ⟨p',U,z,q,c⟩
 ·exact .inl o
 ·cases z
  have q:aV H p (.lst (us.set j D)) p=↑(.lst U):=q;rw[m6] at q;cases q;exact .inr ⟨p,us,rfl,w,g.parts_iff.mpr (Z.parts_iff.mp c)⟩
structure At (X:Cx) (i:Nat) (x:Str):Prop where
 n:X.N[i]?=↑x
 v:lJ X.env.scope x
 d:(x==("__debug__" : Str))=false
 c:(x==("__classdict__" : Str))=false
def At.pe(h:At X i x):PE X (.Name x pos) (jO i):=Ie h.n h.v h.d h.c
structure To (X:Cx) (i:Nat) (x:Str):Prop where
 nd:X.N.Nodup
 n:X.N[i]?=↑x
 l:Loc X.env.scope x
 f:X.fn x=true\/X.env.scope.names.lookup x=some .local
structure Bn (X:Cx) (x:Str):Prop where
 g:Gl X x
 m:X.mg x=none
structure bR (N cs:h6) (X:Cx):Prop where
 n:X.N=N
 get:∀i x,N[i]?=↑x->At X i x
 ck:∀u∈cs,X.env.kindOf u=some .cell\/X.env.kindOf u=some .free
structure eN (N:h6) (X:Cx):Prop where
 to:∀i x,N[i]?=↑x->To X i x
variable{N cs:h6}
protected def bR.a(h:bR N cs X)(e:N[i]?=↑x):At X i x:=h.get i x e
protected def eN.t(h:eN N X)(e:N[i]?=↑x):To X i x:=h.to i x e
def bR.nox(h:bR N cs X):bR N cs X.nox:=⟨h.n,λi x e=>let z:=h.get i x e;⟨z.n,z.v,z.d,z.c⟩,h.ck⟩
def eN.nox(h:eN N X):eN N X.nox:=⟨λi x e=>let z:=h.to i x e;⟨z.nd,z.n,z.l,z.f⟩⟩
def iW(x:Str):Bool:=!(x==("__debug__" : Str)) && !(x==("__classdict__" : Str))
def wb(h:iW x=true):(x==("__debug__" : Str))=false/\(x==("__classdict__" : Str))=false:=by
 unfold iW at h;rwa [fo,m8,m8] at h
variable{k:Nat}
def tx{o:Option NameKind}{k:NameKind}(h:(o==↑k)=true):o=↑k:=by
 cases o with
 |none=>cases h
 |some a=>cases a <;> cases k <;> first |rfl |cases h
def aU(N:h6)(ix:ic):h6:=ix.map λi=>N.getD i ("" : Str)
def vg(N cs:h6)(ix:ic)(y:Str)(sc:Scope):Bool:=decide ((y::aU N ix).Nodup) && decide (sc.kind=.function) && (sc.names.lookup y==some .local) && decide (∀z∈sc.names,z.2≠.cell) && decide (∀z∈sc.names,z.2=.local->sc.names.lookup z.1=some .local) && decide (∀z∈sc.names,z.2=.free->z.1∈aU N ix) && (aU N ix).all (λu=>(sc.names.lookup u==some .free) && cs.elem u) && (y::aU N ix).all iW
def zA(h:X.env.scope.names.lookup x=some .globalImplicit):Gl X x:=h
variable{s:Shared}
def Kj(h:sc.names.lookup x=some .local):lJ (lr X y N' sc cl C s H fp).env.scope x:=.inl (jp h)
def Kk(h:sc.names.lookup x=some .free):lJ (lr X y N' sc cl C s H fp).env.scope x:=.inr (nI h)
def zb(hA:bR N cs X)(h:vg N cs ix y sc=true):yX X y (aU N ix) ix sc:=by
 unfold vg at h;simp only[fo,jf,ie] at h;obtain⟨⟨⟨⟨⟨⟨⟨h1,h2⟩,I⟩,U⟩,V⟩,Y⟩,D⟩,_⟩:=h;exact⟨by rw[hA.n];rfl,h1,h2,tx I,U,V,λz Z a=>hA.ck z.1 (List.mem_of_elem_eq_true (D z.1 (Y z Z a)).2),λu b=>tx (D u b).1⟩
def wg(h:vg N cs ix y sc=true):bR (y::aU N ix) (aU N ix) (lr X y (aU N ix) sc cl C s₂ H₂ fp):=by
 unfold vg at h;simp only[fo,jf,ie] at h;obtain⟨⟨⟨⟨⟨⟨⟨h1,h2⟩,U⟩,Y⟩,Z⟩,a⟩,D⟩,I⟩:=h;refine⟨rfl,λi x e=>⟨e,?_,(wb (I x (bc e))).1,(wb (I x (bc e))).2⟩,λu V=>?_⟩
 ·rcases cr.mp (bc e) with rfl |hm
  ·exact Kj (tx U)
  ·exact Kk (tx (D x hm).1)
 ·exact nI (env:=X.env) (tx (D u V).1)
abbrev FE:=DE0->Option (D×DE0)
abbrev FT:=DE0->Option (Bool×DE0)
abbrev FA:=DE0->Option (k7×DE0)
inductive DP (K:kf) (G:Gd) (H0:Hp) {β:Type} (f:DE0->Option (β×DE0)) (P:(Addr->Prop)->DE0->β->DE0->Prop) (σ:St) (H:Hp):Prop
 |mk (W:Addr->Prop) (env:DE0) (d:β) (env':DE0) (ok:Ok K G H0 W env σ H) (q:f env=↑(d,env')) (k:P W env d env'):DP K G H0 f P σ H
def tD(K:kf)(G:Gd)(H0:Hp)(f:FE):TE:=λσ H Q=>DP K G H0 f (λW env d env' =>
 ∀W' v H',Step W H W' H'->Ok K G H0 W' env' σ H'->a_ K H' (Ow G W') d v->Q v H') σ H
def tG(K:kf)(G:Gd)(H0:Hp)(f:FT):TT:=λσ H Q=>DP K G H0 f (λW env b env' =>
 ∀W' H',Step W H W' H'->Ok K G H0 W' env' σ H'->Q b H') σ H
def lG(K:kf)(G:Gd)(H0:Hp)(f:FA):TA:=λσ H Q=>DP K G H0 f (λW env ds env' =>
 ∀W' vs H',Step W H W' H'->Ok K G H0 W' env' σ H'->aK K H' (Ow G W') ds vs->Q vs H') σ H
def iA(K:kf)(G:Gd)(H0:Hp)(f:FA):TE:=λσ H Q=>DP K G H0 f (λW env ds env' =>
 ∀W' l vs H',Step W H (cF W' l) H'->Ok K G H0 W' env' σ H'->Ok K G H0 (cF W' l) env' σ H'->¬W' l->H' l=↑(.lst vs)->aK K H' (Ow G (cF W' l)) ds vs->Q (.ref l) H') σ H
structure aT (X:Cx) (G:Gd) (H0:Hp) (e:Expr) (f:FE):Prop where
 out:PE X e (tD X.K G H0 f)
structure gM (X:Cx) (G:Gd) (H0:Hp) (e:Expr) (f:FT):Prop where
 out:PT X e (tG X.K G H0 f)
structure fG (X:Cx) (G:Gd) (H0:Hp) (es:i0) (f:FA):Prop where
 out:PA X es (lG X.K G H0 f)
structure gI (X:Cx) (G:Gd) (H0:Hp) (e:Expr) (f:FA):Prop where
 out:PE X e (iA X.K G H0 f)
variable{e:Expr}{t:TE}{t':TT}
def PE.imp{t':TE}(h:PE X e t)(i:∀σ H Q,t' σ H Q->t σ H Q):PE X e t':=λpins s σ H Q I q=>h pins s σ H Q I (i σ H Q q)
def PT.imp{t:TT}(h:PT X e t)(i:∀σ H Q,t' σ H Q->t σ H Q):PT X e t':=λpins s σ H Q I q=>h pins s σ H Q I (i σ H Q q)
def PA.imp{e:i0}{t t':TA}(h:PA X e t)(i:∀σ H Q,t' σ H Q->t σ H Q):PA X e t':=λpos pins s σ H Q I q=>h pos pins s σ H Q I (i σ H Q q)
@[simp] def aB(i:Nat):FE:=λe=>match e[i]? with
 |some ⇑d=>↑(d,e) |some ↑(.ow ds)=>↑(.lst ds,e.set i ⇑(.lst ds))
 |some ↑(.o2 dss)=>↑(.lst (dss.map D.lst),e.set i ⇑(.lst (dss.map D.lst)))
 |_=>none
@[simp] def fC(d:D):FE:=λe=>↑(d,e)
@[simp] def aD(op:D->D->k8)(f g:FE):FE:=λe=>(f e).bind λr=>(g r.2).bind λq=>(op r.1 q.1).map λd=>(d,q.2)
@[simp] def gS(op:D->k8)(f:FE):FE:=λe=>(f e).bind λr=>(op r.1).map λd=>(d,r.2)
@[simp] def cZ(f g:FT):FT:=λe=>(f e).bind λr=>if r.1=true then g r.2 else ↑(false,r.2)
@[simp] def fS(f g:FT):FT:=λe=>(f e).bind λr=>if r.1=true then ↑(true,r.2) else g r.2
@[simp] def dO(f:FT):FT:=λe=>(f e).map λr=>(!r.1,r.2)
@[simp] def aH(f:FE):FT:=λe=>(f e).bind λr=>match r.1 with | .bl b=>↑(b,r.2) |_=>none
@[simp] def yv(f g:FE):FE:=λe=>(f e).bind λr=>match r.1 with | .bl true=>g r.2 | .bl false=>↑(.bl false,r.2) |_=>none
@[simp] def zB(f:FE):FE:=λe=>(f e).bind λr=>match r.1 with | .bl b=>↑(.bl (!b),r.2) |_=>none
@[simp] def aC:FA:=λe=>↑([],e)
@[simp] def az(f:FE)(g:FA):FA:=λe=>(f e).bind λr=>(g r.2).bind λq=>↑(r.1::q.1,q.2)
@[simp] def bE(g:FA):FE:=λe=>(g e).bind λr=>if r.1.length<=64 then ↑(.tup r.1,r.2) else none
@[simp] def iy(g:FA):FA:=λe=>(g e).bind λr=>if r.1.length<=64 then ↑(r.1,r.2) else none
@[simp] def aL(g:FA):FE:=λe=>(g e).map λr=>(.lst r.1,r.2)
@[simp] def jw:D->D->k8 | .int i,.int j=>↑↥(i+j) |_,_=>none
@[simp] def bA:D->D->k8 | .int i,.int j=>↑↥(i-j) |_,_=>none
def o7(i:Int):Prop:=-(2 ^ 64)<i/\i<2 ^ 64
noncomputable instance (i:Int):Decidable (o7 i):=Classical.propDecidable _
def bS(n:Nat):Prop:=n<=2 ^ 20
noncomputable instance (n:Nat):Decidable (bS n):=Classical.propDecidable _
def jB(lo hi i:Int):Prop:=lo<=i/\i<hi
noncomputable instance (lo hi i:Int):Decidable (jB lo hi i):=Classical.propDecidable _
def cN:D->D->k8 | .int i,.int j=>if o7 i\/o7 j then ↑↥(i*j) else none |_,_=>none
def bM:D->D->k8 | .int i,.int j=>if 0<j then ↑↥(i % j) else none |_,_=>none
def c_:D->D->k8 | .int i,.int j=>if jB 1 1073741824 j then ↑↥(i / j) else none |_,_=>none
@[simp] def dP:D->k8 | .int i=>↑↥(-i) |_=>none
@[simp] def fZ:D->D->k8 | .int i,.int j=>↑(.bl (decide (i<j))) |_,_=>none
@[simp] def tH:D->D->k8 | .int i,.int j=>↑(.bl (decide (i<=j))) |_,_=>none
@[simp] def dQ:D->D->k8 | .int i,.int j=>↑(.bl (decide (j<i))) |_,_=>none
@[simp] def iK:D->D->k8 | .int i,.int j=>↑(.bl (decide (j<=i))) |_,_=>none
@[simp] def b_:D->D->k8
 | .int i,.int j=>↑(.bl (decide (i=j))) | .str i,.str j=>↑(.bl (decide (i=j))) | .bl i,.bl j=>↑(.bl (decide (i=j))) |_,_=>none
@[simp] def jS:D->D->k8
 | .int i,.int j=>↑(.bl (!decide (i=j))) | .str i,.str j=>↑(.bl (!decide (i=j))) | .bl i,.bl j=>↑(.bl (!decide (i=j))) |_,_=>none
@[simp] def cO:D->D->k8 | .tup ds,.int i=>bF ds i | .lst ds,.int i=>bF ds i |_,_=>none
def gJ(X:Cx)(G:Gd)(H0:Hp)(r:R2)(op:D->D->k8):Prop :=
 ∀W env σ H x y d1 d2 d (Q:VK),Ok X.K G H0 W env σ H->a_ X.K H (Ow G W) d1 x->a_ X.K H (Ow G W) d2 y->op d1 d2=↑d ->
  (∀v H',Step W H W H'->Ok X.K G H0 W env σ H'->a_ X.K H' (Ow G W) d v->Q v H')->r x y H Q
variable{g:FE}{r:R2}{op:D->D->k8}
def qC(Y:gJ X G H0 r op):∀σ H Q,tD X.K G H0 (aD op f g) σ H Q->pP r (tD X.K G H0 f) (tD X.K G H0 g) σ H Q:=by
 rintro σ H Q ⟨W,env,d,env',ok,e,k⟩;cases e1:f env with
 |none=>simp[e1] at e |some r1 =>
   cases e2:g r1.2 with
   |none=>simp[e1,e2] at e |some r2 =>
     have e:(op r1.1 r2.1).map (λd=>(d,r2.2))=↑(d,env'):=by simpa[aD,e1,e2] using e
     cases e3:op r1.1 r2.1 with
     |none=>rw[e3] at e;cases e
     |some d' =>
       rw[e3] at e;have Z:(d',r2.2)=(d,env'):=cg e;cases Z;refine⟨W,env,r1.1,r1.2,ok,e1,λW1 v1 H1 a D p1=>⟨W1,r1.2,r2.1,r2.2,D,e2,λV v2 H2 s2 I p2=>?_⟩⟩;exact Y V _ σ H2 v1 v2 _ _ _ Q I (D.rep s2 p1) p2 e3 λv b c U h=>k V v b ((a.trans s2).trans c) U h
variable{a:Expr}{p:D->D->k8}
def nJ{op:Operator}(D:gA X (binaryOp op) r)(hd:gJ X G H0 r p)(I:aT X G H0 a f)(U:aT X G H0 b g):aT X G H0 (.BinOp a op b pos) (aD p f g) :=
 ⟨(y4 D I.out U.out).imp (qC hd)⟩
def zC{op:CmpOp}(D:gA X (compareOp op) r)(hd:gJ X G H0 r p)(I:aT X G H0 a f)(U:aT X G H0 b g)(V:behindInMarks op b=false):aT X G H0 (.Compare a [op] [b] pos) (aD p f g) :=
 ⟨(Jf D I.out U.out V).imp (qC hd)⟩
def Kl(D:kJ X r)(hd:gJ X G H0 r p)(I:aT X G H0 a f)(U:aT X G H0 b g)(V:lQ b):aT X G H0 (.Subscript a b pos) (aD p f g) :=
 ⟨(pT D I.out U.out V).imp (qC hd)⟩
def DI(h:∀σ H Q,tD X.K G H0 f σ H Q->t σ H Q):∀σ H Q,tG X.K G H0 (aH f) σ H Q->Dj t σ H Q:=by
 rintro σ H Q ⟨W,env,b,env',ok,e,k⟩;refine h σ H _ ?_;cases e1:f env with
 |none=>simp[e1] at e |some r1 =>
   obtain⟨d,env1⟩:=r1;cases d with
   |bl b' =>
     have e:↑(b',env1)=↑(b,env'):=by simpa[aH,e1] using e
     cases e;exact⟨W,env,_,_,ok,e1,λW1 v1 H1 I D p1=>⟨_,p1.bl_,k W1 H1 I D⟩⟩
   |_=>simp[e1] at e
def nK{op:CmpOp}(D:gA X (compareOp op) r)(hd:gJ X G H0 r p)(I:aT X G H0 a f)(U:aT X G H0 b g)(V:behindInMarks op b=false):gM X G H0 (.Compare a [op] [b] pos) (aH (aD p f g)) :=
 ⟨(Jg D I.out U.out V).imp (DI (qC hd))⟩
variable{g:Int->Int->Int}
def kS{C:Int->Int->Prop}(h:∀D I d,op D I=↑d->∃i j,D=.int i/\I=.int j/\C i j/\d=.int (g i j)):gJ X G H0 (rI C λi j=>.int (g i j)) op:=by
 intro W env σ H x y D I d Q ok p1 p2 e k;obtain⟨i,j,rfl,rfl,U,rfl⟩:=h _ _ _ e;exact⟨i,j,p1.int_,p2.int_,U,k _ H Step.refl ok ↥_⟩
def DJ(h:∀D I d,op D I=↑d->∃i j,D=.int i/\I=.int j/\d=.int (g i j)):gJ X G H0 (iJ λi j=>.int (g i j)) op:=by
 intro W env σ H x y D I d Q ok p1 p2 e k;obtain⟨i,j,rfl,rfl,rfl⟩:=h _ _ _ e;exact⟨i,j,p1.int_,p2.int_,k _ H Step.refl ok ↥_⟩
variable{g:FE}
def tI{g:Int->Int->Bool}(h:∀D I d,op D I=↑d->∃i j,D=.int i/\I=.int j/\d=.bl (g i j)):gJ X G H0 (iJ λi j=>.bl (g i j)) op:=by
 intro W env σ H x y D I d Q ok p1 p2 e k;obtain⟨i,j,rfl,rfl,rfl⟩:=h _ _ _ e;exact⟨i,j,p1.int_,p2.int_,k _ H Step.refl ok (.bl _)⟩
def Km:gJ X G H0 (iJ λi j=>.int (i+j)) jw:=DJ λD I d e=>by
 cases D <;> try (cases e;done)
 all_goals cases I <;> first | (cases e;done) |exact⟨_,_,rfl,rfl,(cg e).symm⟩
def Kn:gJ X G H0 (iJ λi j=>.int (i-j)) bA:=DJ λD I d e=>by
 cases D <;> try (cases e;done)
 all_goals cases I <;> first | (cases e;done) |exact⟨_,_,rfl,rfl,(cg e).symm⟩
def Ko:gJ X G H0 (rI kQ λi j=>.int (i*j)) cN:=kS λD I d e=>by
 cases D <;> try (cases e;done)
 all_goals cases I <;> first
  | (cases e;done)
  | (rename_i i j
     by_cases h:o7 i\/o7 j
     ·simp only[cN,aq h] at e;exact⟨_,_,rfl,rfl,h,(cg e).symm⟩
     ·simp only[cN,b7 h] at e;cases e)
def Kp:gJ X G H0 (rI (λ_ j=>0<j) λi j=>.int (i % j)) bM:=kS λD I d e=>by
 cases D <;> try (cases e;done)
 all_goals cases I <;> first
  | (cases e;done)
  | (rename_i i j
     by_cases h:0<j
     ·simp only[bM,aq h] at e;exact⟨_,_,rfl,rfl,h,(cg e).symm⟩
     ·simp only[bM,b7 h] at e;cases e)
theorem Kq:gJ X G H0 (rI pR λi j=>.int (i / j)) c_:=kS λD I d e=>by
 cases D <;> try (cases e;done)
 all_goals cases I <;> first
  | (cases e;done)
  | (rename_i i j
     by_cases h:jB 1 1073741824 j
     ·simp only[c_,aq h] at e;exact⟨_,_,rfl,rfl,⟨by have:=h.1;lia,h.2⟩,(cg e).symm⟩
     ·simp only[c_,b7 h] at e;cases e)
def Kr:gJ X G H0 (iJ λi j=>.bl (decide (i<j))) fZ:=tI λD I d e=>by
 cases D <;> try (cases e;done)
 all_goals cases I <;> first | (cases e;done) |exact⟨_,_,rfl,rfl,(cg e).symm⟩
def Ks:gJ X G H0 (iJ λi j=>.bl (decide (i<=j))) tH:=tI λD I d e=>by
 cases D <;> try (cases e;done)
 all_goals cases I <;> first | (cases e;done) |exact⟨_,_,rfl,rfl,(cg e).symm⟩
def DK:gJ X G H0 (iJ λi j=>.bl (decide (j<i))) dQ:=tI λD I d e=>by
 cases D <;> try (cases e;done)
 all_goals cases I <;> first | (cases e;done) |exact⟨_,_,rfl,rfl,(cg e).symm⟩
def DL:gJ X G H0 (iJ λi j=>.bl (decide (j<=i))) iK:=tI λD I d e=>by
 cases D <;> try (cases e;done)
 all_goals cases I <;> first | (cases e;done) |exact⟨_,_,rfl,rfl,(cg e).symm⟩
def DM(i j:Int):decide (V.int i=V.int j)=decide (i=j):=by simp
def DN(i j:Str):decide (V.str i=V.str j)=decide (i=j):=by simp
def DO(i j:Bool):decide (V.bl i=V.bl j)=decide (i=j):=by simp
def DQ:gJ X G H0 Da b_:=by
 intro W env σ H x y D I d Q ok p1 p2 e k;cases D <;> try (cases e;done)
 all_goals cases I <;> first
  | (cases e;done)
  | (cases p1.int_;cases p2.int_;cases e;refine⟨rfl,?_⟩;rw[DM];exact k _ H Step.refl ok (.bl _))
  | (cases p1.str_;cases p2.str_;cases e;refine⟨rfl,?_⟩;rw[DN];exact k _ H Step.refl ok (.bl _))
  | (cases p1.bl_;cases p2.bl_;cases e;refine⟨rfl,?_⟩;rw[DO];exact k _ H Step.refl ok (.bl _))
def Kt:gJ X G H0 Db jS:=by
 intro W env σ H x y D I d Q ok p1 p2 e k;cases D <;> try (cases e;done)
 all_goals cases I <;> first
  | (cases e;done)
  | (cases p1.int_;cases p2.int_;cases e;refine⟨rfl,?_⟩;rw[DM];exact k _ H Step.refl ok (.bl _))
  | (cases p1.str_;cases p2.str_;cases e;refine⟨rfl,?_⟩;rw[DN];exact k _ H Step.refl ok (.bl _))
  | (cases p1.bl_;cases p2.bl_;cases e;refine⟨rfl,?_⟩;rw[DO];exact k _ H Step.refl ok (.bl _))
def nL{i:Int}(r:aK K H O ds vs)(h:bF ds i=↑d):∃v,bF vs i=↑v/\a_ K H O d v:=by
 unfold bF at h ⊢;rw[<-r.length];cases q:dV ds.length i with
 |none=>rw[q] at h;cases h
 |some j=>rw[q] at h;exact r.get h
def Ku:gJ X G H0 (D1 X.K) cO:=by
 intro W env σ H x y U V d Q ok p1 p2 e k;cases U <;> first
  | (cases e;done)
  | (cases V <;> first
      | (cases e;done)
      | (cases p2
         first
          | (obtain⟨a, vs, rfl, h, r⟩ := p1.tup_
             obtain⟨v,D,I⟩:=nL r e;exact .inr (.inl ⟨a,vs,_,v,rfl,rfl,eX.of h,D,k _ H Step.refl ok I⟩))
          | (obtain⟨a, vs, rfl, h, r⟩ := p1.lst_
             obtain⟨v,D,I⟩:=nL r e;exact .inl ⟨a,vs,_,v,rfl,rfl,h.sq,D,k _ H Step.refl ok I⟩)))
def mi(D:aT X G H0 a f)(I:aT X G H0 b g):aT X G H0 (.BinOp a .Add b pos) (aD jw f g):=nJ IW Km D I
def l3(D:aT X G H0 a f)(I:aT X G H0 b g):aT X G H0 (.BinOp a .Sub b pos) (aD bA f g):=nJ IX Kn D I
def tz(D:aT X G H0 a f)(I:aT X G H0 b g):aT X G H0 (.BinOp a .Mult b pos) (aD cN f g):=nJ IY Ko D I
def o9(D:aT X G H0 a f)(I:aT X G H0 b g):aT X G H0 (.BinOp a .Mod b pos) (aD bM f g):=nJ I_ Kp D I
def vk(D:aT X G H0 a f)(I:aT X G H0 b g):aT X G H0 (.BinOp a .FloorDiv b pos) (aD c_ f g):=nJ IZ Kq D I
def Kv(D:aT X G H0 a f)(I:aT X G H0 b g):aT X G H0 (.Compare a [.Gt] [b] pos) (aD dQ f g):=zC Dh DK D I (x6 _)
def Kw(D:aT X G H0 a f)(I:aT X G H0 b g):aT X G H0 (.Compare a [.GtE] [b] pos) (aD iK f g):=zC Di DL D I (x6 _)
def zD(D:aT X G H0 a f)(I:aT X G H0 b g):aT X G H0 (.Compare a [.Eq] [b] pos) (aD b_ f g):=zC Dg DQ D I (x6 _)
def rq(D:aT X G H0 a f)(I:aT X G H0 b g):gM X G H0 (.Compare a [.Lt] [b] pos) (aH (aD fZ f g)):=nK Jd Kr D I (x6 _)
def DR(D:aT X G H0 a f)(I:aT X G H0 b g):gM X G H0 (.Compare a [.LtE] [b] pos) (aH (aD tH f g)):=nK Je Ks D I (x6 _)
def o6(D:aT X G H0 a f)(I:aT X G H0 b g):gM X G H0 (.Compare a [.Gt] [b] pos) (aH (aD dQ f g)):=nK Dh DK D I (x6 _)
def nM(D:aT X G H0 a f)(I:aT X G H0 b g):gM X G H0 (.Compare a [.GtE] [b] pos) (aH (aD iK f g)):=nK Di DL D I (x6 _)
def lz(D:aT X G H0 a f)(I:aT X G H0 b g):gM X G H0 (.Compare a [.Eq] [b] pos) (aH (aD b_ f g)):=nK Dg DQ D I (x6 _)
def z9(D:aT X G H0 a f)(I:aT X G H0 b g):gM X G H0 (.Compare a [.NotEq] [b] pos) (aH (aD jS f g)):=nK Jc Kt D I (x6 _)
def mq(D:aT X G H0 a f)(I:aT X G H0 b g)(U:lQ b:=by intro _ _;rfl):aT X G H0 (.Subscript a b pos) (aD cO f g):=Kl D2 Ku D I U
variable{Nn Cn:h6}
def bh(an:bR Nn Cn X)(U:‹Nn[i]?=↑x›):aT X G H0 (.Name x pos) (aB i):=⟨((an.a U).pe).imp λσ H Q V=>by
 obtain⟨W,env,d,env',ok,e,k⟩:=V;unfold aB at e;cases q:env[i]? with
 |none=>rw[q] at e;cases e
 |some o =>
   cases o with
   |none=>rw[q] at e;cases e
   |some sl =>
     cases sl with
     |sh d' =>
       rw[q] at e;cases e;obtain⟨v,I,r⟩:=ok.slot i _ q;exact⟨v,I,k W v H Step.refl ok r⟩
     |ow ds =>
       rw[q] at e;cases e;obtain⟨W',v,I,st,D,r⟩:=ok.share q;exact⟨v,I,k W' v H st D r⟩
     |o2 dss =>
       rw[q] at e;cases e;obtain⟨W',v,I,st,D,r⟩:=ok.share2 q;exact⟨v,I,k W' v H st D r⟩
     |ag _ _ _=>rw[q] at e;cases e
     |al _ _=>rw[q] at e;cases e
     |ro _ _=>rw[q] at e;cases e⟩
def kT(h:PE X e (tC v))(r:∀H O,a_ X.K H O d v):aT X G H0 e (fC d):=⟨h.imp λσ H Q D=>by
 obtain⟨W,env,d',env',ok,q,k⟩:=D;cases q;exact k W v H Step.refl ok (r _ _)⟩
def cy{i:Int}:aT X G H0 (.Constant ↥i j pos) (fC ↥i):=kT pG λ_ _=>.int _
def ut{i:Bool}:aT X G H0 (.Constant (.bool i) j pos) (fC (.bl i)):=kT Ig λ_ _=>.bl _
def jk{i:Str}:aT X G H0 (.Constant (.str i) j pos) (fC (.str i)):=kT CM λ_ _=>.str _
def wy(U:aT X G H0 a f):aT X G H0 (.UnaryOp .USub a pos) (gS dP f):=⟨(CZ C_ U.out).imp λσ H Q V=>by
 obtain⟨W,env,d',env',ok,q,k⟩:=V;cases e1:f env with
 |none=>simp[e1] at q |some r =>
   obtain⟨d,env1⟩:=r;cases d with
   |int i =>
     have q:↑(D.int (-i),env1)=↑(d',env'):=by simpa[gS,e1,dP] using q
     cases q;exact⟨W,env,_,_,ok,e1,λW1 v1 H1 Y I p1=>⟨i,p1.int_,k W1 _ H1 Y I ↥_⟩⟩
   |_=>simp[e1] at q⟩
structure lV (X:Cx) (G:Gd) (H0:Hp) (e:Expr) (f:FT):Prop where
 out:PW X e (tG X.K G H0 f)
variable{t:TI}
def PW.imp{t:TT}(h:PW X e t)(i:∀σ H Q,t' σ H Q->t σ H Q):PW X e t':=λw pins s σ H Q I q=>h w pins s σ H Q I (i σ H Q q)
variable{p:FT}
def cT(h:lV X G H0 e p):gM X G H0 e p:=⟨PW.pt h.out⟩
def vn(h:gM X G H0 a p):lV X G H0 (.BoolOp .And [a] pos) p:=⟨Ij h.out⟩
def sd(h:gM X G H0 a p):lV X G H0 (.BoolOp .Or [a] pos) p:=⟨Ik h.out⟩
variable{rest:i0}
def vj(h:gM X G H0 a p)(h2:lV X G H0 (.BoolOp .And (b::rest) pos) q):lV X G H0 (.BoolOp .And (a::b::rest) pos) (cZ p q):=⟨(Il h.out h2.out).imp λσ H Q V=>by
 obtain⟨W,env,d,env',ok,e,k⟩:=V;cases e1:p env with
 |none=>simp[e1] at e |some r =>
   obtain⟨t,env1⟩:=r;refine⟨W,env,t,env1,ok,e1,λW1 H1 U D=>?_⟩;cases t with
   |true =>
     exact⟨W1,env1,d,env',D,by simpa[cZ,e1] using e,λY H2 s2 I=>k Y H2 (U.trans s2) I⟩
   |false =>
     have e:↑(false,env1)=↑(d,env'):=by simpa[cZ,e1] using e
     cases e;exact k W1 H1 U D⟩
def qr(h:gM X G H0 a p)(h2:lV X G H0 (.BoolOp .Or (b::rest) pos) q):lV X G H0 (.BoolOp .Or (a::b::rest) pos) (fS p q):=⟨(Io h.out h2.out).imp λσ H Q V=>by
 obtain⟨W,env,d,env',ok,e,k⟩:=V;cases e1:p env with
 |none=>simp[e1] at e |some r =>
   obtain⟨t,env1⟩:=r;refine⟨W,env,t,env1,ok,e1,λW1 H1 U D=>?_⟩;cases t with
   |false =>
     exact⟨W1,env1,d,env',D,by simpa[fS,e1] using e,λY H2 s2 I=>k Y H2 (U.trans s2) I⟩
   |true =>
     have e:↑(true,env1)=↑(d,env'):=by simpa[fS,e1] using e
     cases e;exact k W1 H1 U D⟩
def vi(h:gM X G H0 a p):gM X G H0 (.UnaryOp .Not a pos) (dO p):=⟨(Ip h.out).imp λσ H Q I=>by
 obtain⟨W,env,d,env',ok,e,k⟩:=I;cases e1:p env with
 |none=>simp[e1] at e |some r =>
   have e:↑(!r.1,r.2)=↑(d,env'):=by simpa[dO,e1] using e
   cases e;exact⟨W,env,_,_,ok,e1,λW1 H1 U D=>k W1 H1 U D⟩⟩
def r8(h:aT X G H0 a f)(D:∀whole,isTrue a X.env whole=(do let v <-whole;standAt a.pos;holding [v] (truthy v)):=by intro _;rfl):gM X G H0 a (aH f):=⟨(Ih h.out D).imp (DI λ_ _ _ z=>z)⟩
variable{op:k7->k8}
def zE{op:BoolOp}(h:aT X G H0 a f):aT X G H0 (.BoolOp op [a] pos) f:=⟨Is h.out⟩
def zF(h:aT X G H0 a f)(h2:aT X G H0 (.BoolOp .And (b::rest) pos) g):aT X G H0 (.BoolOp .And (a::b::rest) pos) (yv f g):=⟨(Iu h.out h2.out).imp λσ H Q Y=>by
 obtain⟨W,env,d,env',ok,e,k⟩:=Y;cases e1:f env with
 |none=>simp[e1] at e |some r =>
   obtain⟨t,env1⟩:=r;refine⟨W,env,t,env1,ok,e1,λW1 v1 H1 V I p1=>?_⟩;cases t with
   |bl t =>
     refine⟨t,p1.bl_,?_⟩;cases t with
     |true =>
       exact⟨W1,env1,d,env',I,by simpa[yv,e1] using e,λZ v2 H2 s2 U p2=>k Z v2 H2 (V.trans s2) U p2⟩
     |false =>
       have e:↑(D.bl false,env1)=↑(d,env'):=by simpa[yv,e1] using e
       cases e;exact k W1 _ H1 V I (.bl _)
   |_=>simp[e1] at e⟩
def Kx(h:aT X G H0 a f):aT X G H0 (.UnaryOp .Not a pos) (zB f):=⟨(Iv h.out).imp λσ H Q U=>by
 obtain⟨W,env,d,env',ok,e,k⟩:=U;cases e1:f env with
 |none=>simp[e1] at e |some r =>
   obtain⟨t,env1⟩:=r;refine⟨W,env,t,env1,ok,e1,λW1 v1 H1 V I p1=>?_⟩;cases t with
   |bl t =>
     have e:↑(D.bl (!t),env1)=↑(d,env'):=by simpa[zB,e1] using e
     cases e;exact⟨t,p1.bl_,k W1 _ H1 V I (.bl _)⟩
   |_=>simp[e1] at e⟩
def cz  : fG X G H0 [] aC:=⟨uz.imp λσ H Q D=>by
 obtain⟨W,env,ds,env',ok,e,k⟩:=D;cases e;exact k W [] H Step.refl ok .nil⟩
variable{F:FA}
def bj(U:aT X G H0 e f)(V:fG X G H0 es F)(Y:‹starEach (e::es) X.env=(false,eval e X.env)::starEach es X.env›):fG X G H0 (e::es) (az f F):=⟨(qu U.out V.out Y).imp λσ H Q Z=>by
 obtain⟨W,env,ds,env',ok,q,k⟩:=Z;cases e1:f env with
 |none=>simp[e1] at q |some r =>
   obtain⟨d,env1⟩:=r;cases e2:F env1 with
   |none=>simp[e1,e2] at q |some r2 =>
     have q:↑(d::r2.1,r2.2)=↑(ds,env'):=by simpa[az,e1,e2] using q
     cases q;exact⟨W,env,d,env1,ok,e1,λW1 v1 H1 a D p1=>⟨W1,env1,_,_,D,e2,λb vs H2 s2 I p2=>k b _ H2 (a.trans s2) I (.cons (D.rep s2 p1) p2)⟩⟩⟩
def qD(h:n<=64):n<=sizeLine:=d7 h (by rw[i4];decide)
def ma{k1}(h:fG X G H0 es F):aT X G H0 (.Tuple es k1 pos) (bE F):=⟨(Jw h.out).imp λσ H Q V=>by
 obtain⟨W,env,d,env',ok,q,k⟩:=V;cases e1:F env with
 |none=>simp[e1] at q |some r =>
   obtain⟨ds,env1⟩:=r;by_cases U:ds.length<=64
   ·have q:↑(D.tup ds,env1)=↑(d,env'):=by simpa[bE,e1,U] using q
    cases q;refine⟨W,env,ds,_,ok,e1,λW1 vs H1 Y I p1=>⟨by rw[<-p1.length];exact qD U,λl Z=>?_⟩⟩;have sm:bB H1 (aV H1 l (.tup vs)):=lU Z;have st:Step W1 H1 W1 (aV H1 l (.tup vs)):=Step.same sm;exact k W1 _ _ (Y.trans st) (I.same sm) (.tup m6 (I.reps st p1))
   ·simp[e1,U] at q⟩
def lX(ok:Ok X.K G H0 W env σ H)(r:aK X.K H (Ow G W) ds vs)(D:H l=none) :
  Step W H (cF W l) (aV H l (.lst vs))/\Ok X.K G H0 W env σ (aV H l (.lst vs))/\Ok X.K G H0 (cF W l) env σ (aV H l (.lst vs))/\¬W l/\aV H l (.lst vs) l=↑(.lst vs)/\aK X.K (aV H l (.lst vs)) (Ow G (cF W l)) ds vs:=by
 have sm:bB H (aV H l (.lst vs)):=lU D;obtain⟨h1,h2,I,U,V⟩:=ok.fresh (l:=l) (vs:=vs) (ds:=ds) sm D m6 ((r.mono (O':=λa=>(Ow G W a\/H a=none)/\a≠l) (λ_ _ h=>sm _ _ h) λa us o h=>⟨⟨.inl o,λz=>by
  subst z;have h2:Rd H a (.lst us):=h;rcases h2 with h2 | ⟨_,h2⟩ <;> rw[D] at h2 <;> cases h2⟩,h.keep λo e=>sm _ o e⟩))
 exact⟨V,ok.same sm,I,h1,m6,U⟩
def j7(h:fG X G H0 es F):gI X G H0 (.List es pos) (iy F):=⟨(Dq h.out).imp λσ H Q U=>by
 obtain⟨W,env,d,env',ok,q,k⟩:=U;cases e1:F env with
 |none=>simp[e1] at q |some r =>
   obtain⟨ds,env1⟩:=r;by_cases D:ds.length<=64
   ·have q:↑(ds,env1)=↑(d,env'):=by simpa[iy,e1,D] using q
    cases q;refine⟨W,env,_,_,ok,e1,λW1 vs H1 V I p1=>⟨by rw[<-p1.length];exact qD D,λl Y=>?_⟩⟩;obtain⟨h1,h2,Z,a,b,c⟩:=lX I p1 Y;exact k W1 l vs _ (V.trans h1) h2 Z a b c
   ·simp[e1,D] at q⟩
def i8(h:gI X G H0 e F):aT X G H0 e (aL F):=⟨h.out.imp λσ H Q Y=>by
 obtain⟨W,env,d,env',ok,q,k⟩:=Y;cases e1:F env with
 |none=>simp[e1] at q |some r =>
   have q:↑(D.lst r.1,r.2)=↑(d,env'):=by simpa[aL,e1] using q
   cases q;refine⟨W,env,_,_,ok,e1,λW1 l vs H1 V I U Z b c=>k W1 _ H1 ⟨V.keep,λa z=>V.ws a (.inl z)⟩ I (.lst ⟨I.good l (U.wl l (.inr rfl)).1,Z⟩ (.inl b) (c.mono (λ_ _ h=>h) λa us o h=>⟨⟨o.1,λz=>o.2 (.inl z)⟩,h⟩))⟩⟩
def bO(P:Program)(w:World)(K:kf)(mg:Str->h8)(base:Heap)(CX:iP)(x:Str)(k:Nat)(sp:Sp):Prop :=
 ∃D fd ps,cK P w K mg base CX k D fd ps sp/\mg x=↑(.ref D)/\PySem.W.keepIn K (.ref D)=true/\Binds K fd ps []/\(x==("__debug__" : Str))=false
def cH(K:kf)(m:k7->k8):Sp:=λvs H Q _=>∃O ds d,aK K H O ds vs/\m ds=↑d/\∀v H',bB H H'->a_ K H' (λa=>O a\/H a=none) d v->Q v H'
def lH(K:kf)(m:k7->Option k7):Sp:=λvs H Q _=>∃O ds I,aK K H O ds vs/\m ds=↑I/\∀l us H',bB H H'->H l=none->H' l=↑(.lst us)->aK K H' (λa=>(O a\/H a=none)/\a≠l) I us->Q (.ref l) H'
@[simp] def e7(m:k7->k8)(F:FA):FE:=λe=>(F e).bind λr=>(m r.1).map λd=>(d,r.2)
@[simp] def jv(m:k7->Option k7)(F:FA):FA:=λe=>(F e).bind λr=>(m r.1).map λd=>(d,r.2)
variable{m:k7->k8}{E:XK}
def Ky:∀σ H Q,tD X.K G H0 (e7 m F) σ H Q->sZ (cH X.K m) [] E (lG X.K G H0 F) σ H Q:=λσ H Q I=>by
 obtain⟨W,env,d,env',ok,q,k⟩:=I;cases e1:F env with
 |none=>simp[e1] at q |some r =>
   obtain⟨ds,env1⟩:=r;cases e2:m ds with
   |none=>simp[e1,e2] at q |some d' =>
     have q:↑(d',env1)=↑(d,env'):=by simpa[e7,e1,e2] using q
     cases q;refine⟨W,env,ds,_,ok,e1,λW1 vs H1 U D p1=>?_⟩;show cH X.K m (vs++[]) H1 Q E;rw[du];refine⟨Ow G W1,ds,_,p1,e2,λv H2 sm V=>?_⟩;refine k W1 v H2 (U.trans (Step.same sm)) (D.same sm) (V.mono (λ_ _ h=>h) λa us o h=>⟨?_,h⟩);rcases o with o |o
     ·exact o
     ·exact⟨D.good a (D.stay.free o),λz=>by obtain⟨_,us,q⟩:=D.wl a z;rw[o] at q;cases q⟩
def Kz{m:k7->Option k7}:∀σ H Q,iA X.K G H0 (jv m F) σ H Q->sZ (lH X.K m) [] E (lG X.K G H0 F) σ H Q:=λσ H Q V=>by
 obtain⟨W,env,d,env',ok,q,k⟩:=V;cases e1:F env with
 |none=>simp[e1] at q |some r =>
   obtain⟨ds,env1⟩:=r;cases e2:m ds with
   |none=>simp[e1,e2] at q |some d' =>
     have q:↑(d',env1)=↑(d,env'):=by simpa[jv,e1,e2] using q
     cases q;refine⟨W,env,ds,_,ok,e1,λW1 vs H1 Y I p1=>?_⟩;show lH X.K m (vs++[]) H1 Q E;rw[du];refine⟨Ow G W1,ds,_,p1,e2,λl us H2 sm Z U a=>?_⟩;obtain⟨h1,h2,b,c,e⟩:=I.fresh sm Z U a;exact k W1 l us H2 (Y.trans e) (I.same sm) b h1 U c
variable{jr:Nat}{p':Pos}
def gz(c:bO X.prog X.w X.K X.mg X.base bQ x k (cH X.K m))(V:bC jr X.A)(Y:fG X G H0 (e::es) F)(D:k<=jr:=by decide)(Z:Gl X x:=by walk_at "g")(a:‹starEach (e::es) X.env=(false,eval e X.env)::starEach es X.env›)(I:‹(backTo pos (starEach es X.env)).any (·.1)=false›) :
  aT X G H0 (.Call (.Name x p') (e::es) [] pos) (e7 m F):=let ⟨_,_,_,b,d,f,g,U⟩:=c;⟨(yG b (V.mono D) Z d f g .nil yP Y.out U a I).imp Ky⟩
variable{mF:k7->Option k7}
def nN(c:bO X.prog X.w X.K X.mg X.base bQ x k (lH X.K mF))(V:bC jr X.A)(Y:fG X G H0 (e::es) F)(D:k<=jr:=by decide)(Z:Gl X x:=by walk_at "g")(a:‹starEach (e::es) X.env=(false,eval e X.env)::starEach es X.env›)(I:‹(backTo pos (starEach es X.env)).any (·.1)=false›) :
  gI X G H0 (.Call (.Name x p') (e::es) [] pos) (jv mF F):=let ⟨_,_,_,b,d,f,g,U⟩:=c;⟨(yG b (V.mono D) Z d f g .nil yP Y.out U a I).imp Kz⟩
def xw(X:Cx)(G:Gd)(H0:Hp)(r:k6->Hp->VK->Prop)(op:k7->k8):Prop :=
 ∀W env σ H vs ds d (Q:VK),Ok X.K G H0 W env σ H->aK X.K H (Ow G W) ds vs->op ds=↑d ->
  (∀v H',Step W H W H'->Ok X.K G H0 W env σ H'->a_ X.K H' (Ow G W) d v->Q v H')->r vs H Q
def zG(X:Cx)(G:Gd)(H0:Hp)(r:k6->Hp->VK->Prop)(op:k7->Option k7):Prop :=
 ∀W env σ H vs ds rs (Q:VK),Ok X.K G H0 W env σ H->aK X.K H (Ow G W) ds vs->op ds=↑rs ->
  (∀l us H',Step W H (cF W l) H'->Ok X.K G H0 W env σ H'->Ok X.K G H0 (cF W l) env σ H'->¬W l->H' l=↑(.lst us)->aK X.K H' (Ow G (cF W l)) rs us->Q (.ref l) H')->r vs H Q
variable{r:k6->Hp->VK->Prop}
def DS(hd:xw X G H0 r op):∀σ H Q,tD X.K G H0 (e7 op F) σ H Q->s_ r (lG X.K G H0 F) σ H Q:=λσ H Q U=>by
 obtain⟨W,env,d,env',ok,q,k⟩:=U;cases e1:F env with
 |none=>simp[e1] at q |some z =>
   obtain⟨ds,env1⟩:=z;cases e2:op ds with
   |none=>simp[e1,e2] at q |some d' =>
     have q:↑(d',env1)=↑(d,env'):=by simpa[e7,e1,e2] using q
     cases q;exact⟨W,env,ds,_,ok,e1,λW1 vs H1 V D p1=>hd W1 _ σ H1 vs ds _ Q D p1 e2 λv H2 s2 I p2=>k W1 v H2 (V.trans s2) I p2⟩
def K0{op:k7->Option k7}(hd:zG X G H0 r op):∀σ H Q,iA X.K G H0 (jv op F) σ H Q->s_ r (lG X.K G H0 F) σ H Q:=λσ H Q Y=>by
 obtain⟨W,env,d,env',ok,q,k⟩:=Y;cases e1:F env with
 |none=>simp[e1] at q |some z =>
   obtain⟨ds,env1⟩:=z;cases e2:op ds with
   |none=>simp[e1,e2] at q |some d' =>
     have q:↑(d',env1)=↑(d,env'):=by simpa[jv,e1,e2] using q
     cases q;exact⟨W,env,ds,_,ok,e1,λW1 vs H1 Z I p1=>hd W1 _ σ H1 vs ds _ Q I p1 e2 λl us H2 s2 U V a b c=>k W1 l us H2 (Z.trans s2) U V a b c⟩
variable{id:String}
def zH(U:t9 X (.builtin id) r)(hd:xw X G H0 r op)(V:Gl X x)(Y:X.mg x=none)(Z:bootBuiltins x=↑(.builtin id))(a:fG X G H0 (e::es) F)(b:x ≠ "__name__":=by decide)(D:(x==("__debug__" : Str))=false:=by decide)(c:‹starEach (e::es) X.env=(false,eval e X.env)::starEach es X.env›)(I:‹(backTo pos (starEach es X.env)).any (·.1)=false›):aT X G H0 (.Call (.Name x p') (e::es) [] pos) (e7 op F):=⟨(nG U V Y Z a.out b D c I).imp (DS hd)⟩
variable{T:String}
def zI(U:t9 X (.type T) r)(hd:xw X G H0 r op)(V:Gl X x)(Y:X.mg x=none)(Z:bootBuiltins x=↑(.type T))(a:fG X G H0 (e::es) F)(b:x ≠ "__name__":=by decide)(D:(x==("__debug__" : Str))=false:=by decide)(c:‹starEach (e::es) X.env=(false,eval e X.env)::starEach es X.env›)(I:‹(backTo pos (starEach es X.env)).any (·.1)=false›):aT X G H0 (.Call (.Name x p') (e::es) [] pos) (e7 op F):=⟨(Dx U V Y Z a.out b D c I).imp (DS hd)⟩
variable{opF:k7->Option k7}
def K1(U:t9 X (.type T) r)(hd:zG X G H0 r opF)(V:Gl X x)(Y:X.mg x=none)(Z:bootBuiltins x=↑(.type T))(a:fG X G H0 (e::es) F)(b:x ≠ "__name__":=by decide)(D:(x==("__debug__" : Str))=false:=by decide)(c:‹starEach (e::es) X.env=(false,eval e X.env)::starEach es X.env›)(I:‹(backTo pos (starEach es X.env)).any (·.1)=false›):gI X G H0 (.Call (.Name x p') (e::es) [] pos) (jv opF F):=⟨(Dx U V Y Z a.out b D c I).imp (K0 hd)⟩
def vw(h:aK K H O [d] vs):∃v,vs=[v]/\a_ K H O d v:=by
 cases h with |cons r t=>cases t;exact⟨_,rfl,r⟩
def tJ(h:aK K H O [d,d'] vs):∃v D,vs=[v,D]/\a_ K H O d v/\a_ K H O d' D:=by
 cases h with |cons r t=>cases t with |cons r' t=>cases t;exact⟨_,_,rfl,r,r'⟩
@[simp] def dM:k7->k8 | [.tup ds]=>↑↥ds.length | [.lst ds]=>↑↥ds.length |_=>none
def K2:xw X G H0 (λxs H Q=>∃p ys,xs=[.ref p]/\(dI X.K H p ys\/eX X.K H p ys)/\Q ↥ys.length H) dM:=by
 intro W env σ H vs ds d Q ok r e k;unfold dM at e;split at e
 ·rename_i ds
  cases e;obtain⟨v,rfl,D⟩:=vw r;have r:=D;obtain⟨a,us,rfl,h,r⟩:=r.tup_;exact⟨a,us,rfl,.inr (eX.of h),by rw[<-r.length];exact k _ H Step.refl ok ↥_⟩
 ·rename_i ds
  cases e;obtain⟨v,rfl,D⟩:=vw r;have r:=D;obtain⟨a,us,rfl,h,r⟩:=r.lst_;exact⟨a,us,rfl,.inl h.sq,by rw[<-r.length];exact k _ H Step.refl ok ↥_⟩
 ·cases e
def y7(I:fG X G H0 [e] F)(D:Bn X "len":=by walk_at "b")(U:‹starEach [e] X.env=(false,eval e X.env)::starEach [] X.env›):aT X G H0 (.Call (.Name "len" p') [e] [] pos) (e7 dM F) :=
 zH yJ K2 D.g D.m zm I (by decide) (by decide) U rfl
@[simp] def jT:k7->k8 | [↥i]=>↑↥i | [.bl k]=>↑↥(if k then 1 else 0) |_=>none
def K3:xw X G H0 (λxs H Q=>(∃i,xs=[↥i]/\Q ↥i H)\/∃k,xs=[.bl k]/\Q ↥(if k then 1 else 0) H) jT:=by
 intro W env σ H vs ds d Q ok r e k;unfold jT at e;split at e
 ·cases e
  obtain⟨v,rfl,D⟩:=vw r;have r:=D;exact .inl ⟨_,by rw[r.int_],k _ H Step.refl ok ↥_⟩
 ·cases e
  obtain⟨v,rfl,D⟩:=vw r;have r:=D;exact .inr ⟨_,by rw[r.bl_],k _ H Step.refl ok ↥_⟩
 ·cases e
def K4:bootBuiltins "int" = ↑(.type "int"):=by decide +kernel
def K5(I:fG X G H0 [e] F)(D:Bn X "int":=by walk_at "b")(U:‹starEach [e] X.env=(false,eval e X.env)::starEach [] X.env›):aT X G H0 (.Call (.Name "int" p') [e] [] pos) (e7 jT F) :=
 zI Ji K3 D.g D.m K4 I (by decide) (by decide) U rfl
@[simp] def jU:k7->k8 | [↥i,↥j]=>↑↥(if j > i then j else i) |_=>none
def K6:xw X G H0 (λxs H Q=>∃i j,xs=[↥i,↥j]/\Q ↥(if j > i then j else i) H) jU:=by
 intro W env σ H vs ds d Q ok r e k;unfold jU at e;split at e
 ·cases e
  obtain⟨v,U,rfl,D,I⟩:=tJ r;have r:=D;exact⟨_,_,by rw[r.int_,I.int_],k _ H Step.refl ok ↥_⟩
 ·cases e
def DT(U:fG X G H0 [a,b] F)(V:‹X.calm=true›)(I:Bn X "max":=by walk_at "b")(Y:‹starEach [a,b] X.env=(false,eval a X.env)::starEach [b] X.env›)(D:‹(backTo pos (starEach [b] X.env)).any (·.1)=false›):aT X G H0 (.Call (.Name "max" p') [a,b] [] pos) (e7 jU F) :=
 zH (Jh V) K6 I.g I.m boot_max U (by decide) (by decide) Y D
def dL:k7->Option ik
 | []=>↑[] | .int i::r=>(dL r).map (i::·)
 |_::_=>none
def tK:∀ {ds:k7} {I:ik},dL ds=↑I->ds=I.map D.int
 | [],I,h=>by cases h;rfl
 | .int i::r,I,h=>by
   unfold dL at h;cases q:dL r with
   |none=>rw[q] at h;cases h
   |some ms=>rw[q] at h;cases h;rw[tK q];rfl
 | .str _::_,_,h=>by cases h
def DU(I:ik):dL (I.map D.int)=↑I:=by
 induction I with
 |nil=>rfl |cons n r ih=>show(dL (r.map D.int)).map (n::·)=_;rw[ih];rfl
def tL{K:kf}{H:Hp}{O:Addr->Prop}:∀ {I:ik} {vs:k6},aK K H O (I.map D.int) vs->vs=I.map V.int
 | [],_,h=>by cases h;rfl
 |n::r,_,h=>by cases h with |cons a t=>rw[tL t,a.int_];rfl
def DV(a:X.calm=true):t9 X (.builtin "sum") (λxs H Q=>∃p,∃D:ik,xs=[.ref p]/\dI X.K H p (D.map V.int)/\Q ↥D.sum H):=by
 intro pins s σ H xs us Q I r h;obtain⟨p,D,rfl,b,q⟩:=h;obtain⟨u,rfl,c⟩:=yx r;cases c;obtain⟨its,d,pl,g⟩:=I.list b;have hi:IntsAre its D:=J4 d;have Y:=pl.isList;obtain⟨xs,U⟩:=hi.allInts.items;rw[U] at Y;refine sum_intListG (I.ok.hd a) Y λh' tk t' e=>⟨.int D.sum,H,I.kept e,⟨t',?_⟩,q⟩;have f:numsOf its=D:=hi.numsOf;have Z:numsOf (intItems xs).toList=D:=by rw[<-U];exact f
 rw[nums_intItems] at Z;rw[preSum_eq,i6 ⋯,Z]
def fL:k7->k8 | [.lst ds]=>(dL ds).map λI=>.int I.sum |_=>none
def K7:xw X G H0 (λxs H Q=>∃p,∃D:ik,xs=[.ref p]/\dI X.K H p (D.map V.int)/\Q ↥D.sum H) fL:=by
 intro W env σ H vs ds d Q ok r e k;unfold fL at e;split at e
 ·rename_i ds
  cases q:dL ds with
  |none=>rw[q] at e;cases e
  |some D =>
    rw[q] at e;cases e;obtain⟨v,rfl,I⟩:=vw r;have r:=I;obtain⟨a,us,rfl,h,r⟩:=r.lst_;rw[tK q] at r;rw[tL r] at h;exact⟨a,D,rfl,h.sq,k _ H Step.refl ok ↥_⟩
 ·cases e
def lY(I:fG X G H0 [e] F)(U:‹X.calm=true›)(D:Bn X "sum":=by walk_at "b")(V:‹starEach [e] X.env=(false,eval e X.env)::starEach [] X.env›):aT X G H0 (.Call (.Name "sum" p') [e] [] pos) (e7 fL F) :=
 zH (DV U) K7 D.g D.m boot_sum I (by decide) (by decide) V rfl
@[simp] def wv:k7->Option k7 | [.lst ds]=>↑ds | [.tup ds]=>↑ds |_=>none
def K8:zG X G H0 (λxs H Q=>∃p ys,xs=[.ref p]/\(dI X.K H p ys\/eX X.K H p ys)/\∀l,H l=none->Q (.ref l) (aV H l (.lst ys))) wv:=by
 intro W env σ H vs ds b Q ok r e k;unfold wv at e;split at e
 ·cases e
  obtain⟨v,rfl,D⟩:=vw r;have r:=D;obtain⟨a,us,rfl,h,r⟩:=r.lst_;refine⟨a,us,rfl,.inl h.sq,λl I=>?_⟩;obtain⟨h1,h2,U,V,Y,Z⟩:=lX ok r I;exact k l us _ h1 h2 U V Y Z
 ·cases e
  obtain⟨v,rfl,D⟩:=vw r;have r:=D;obtain⟨a,us,rfl,h,r⟩:=r.tup_;refine⟨a,us,rfl,.inr (eX.of h),λl I=>?_⟩;obtain⟨h1,h2,U,V,Y,Z⟩:=lX ok r I;exact k l us _ h1 h2 U V Y Z
 ·cases e
def K9:bootBuiltins "list" = ↑(.type "list"):=by decide +kernel
def zJ(I:fG X G H0 [e] F)(D:Bn X "list":=by walk_at "b")(U:‹starEach [e] X.env=(false,eval e X.env)::starEach [] X.env›):gI X G H0 (.Call (.Name "list" p') [e] [] pos) (jv wv F) :=
 K1 JJ K8 D.g D.m K9 I (by decide) (by decide) U rfl
def zK(lo hi:Int):ik:=(List.range (hi-lo).toNat).map λ(k:Nat)=>lo+(k:Int)
def zL{K:kf}{H:Hp}{O:Addr->Prop}:∀(I:ik),aK K H O (I.map D.int) (I.map V.int)
 | []=>.nil |n::r=>.cons ↥n (zL r)
abbrev FO:=DE0->Option (kb×DE0)
def KA(K:kf)(G:Gd)(H0:Hp)(f:FO):TO:=λσ H Q=>DP K G H0 f (λW env o env'=> ∀W' H',Step W H W' H'->Ok K G H0 W' env' σ H'->Q o H') σ H
structure tM (X:Cx) (G:Gd) (H0:Hp) (e:Option Expr) (f:FO):Prop where
 out:PO X e (KA X.K G H0 f)
variable{t':TI}
def PO.imp{e:Option Expr}{t t':TO}(h:PO X e t)(i:∀σ H Q,t' σ H Q->t σ H Q):PO X e t':=λpins s σ H Q I q=>h pins s σ H Q I (i σ H Q q)
@[simp] def iL:FO:=λe=>↑(none,e)
@[simp] def gK(f:FE):FO:=λe=>(f e).bind λr=>match r.1 with | .int i=>↑(↑i,r.2) |_=>none
def x9  : tM X G H0 none iL:=⟨J6.imp λσ H Q ⟨W,env,o,env',ok,q,k⟩=>by cases q;exact k W H Step.refl ok⟩
def u4(h:aT X G H0 e f):tM X G H0 ↑e (gK f):=⟨(J8 h.out).imp λσ H Q I=>by
 obtain⟨W,env,o,env',ok,q,k⟩:=I;cases e1:f env with
 |none=>simp[e1] at q |some r =>
   obtain⟨d,env1⟩:=r;cases d with
   |int i =>
     have q:↑(↑i,env1)=↑(o,env'):=by simpa[gK,e1] using q
     cases q;exact⟨W,env,_,_,ok,e1,λW1 v1 H1 U D p1=>⟨i,p1.int_,k W1 H1 U D⟩⟩
   |_=>simp[e1] at q⟩
def cutD(xs:k7)(lo hi:kb):k7:=(xs.drop (HT.sIx xs.length 0 lo)).take (HT.sIx xs.length xs.length hi-HT.sIx xs.length 0 lo)
def aK.cut(r:aK K H O ds vs)(lo hi:kb):aK K H O (cutD ds lo hi) (jA vs lo hi):=by
 unfold cutD jA;rw[r.length];exact(r.drop _).take _
@[simp] def gT(f:FE)(l h:FO):FA:=λe=>(f e).bind λr=>(l r.2).bind λD=>(h D.2).bind λI=>match r.1 with | .lst ds=>↑(cutD ds D.1 I.1,I.2) |_=>none
variable{fl:Value}
def vv{lo hi:Option Expr}{fl V:FO}{sp:Pos}(g:aT X G H0 a f)(i:tM X G H0 lo fl)(j:tM X G H0 hi V) :
  gI X G H0 (.Subscript a (.Slice lo hi none sp) pos) (gT f fl V):=⟨(JA JI g.out i.out j.out).imp λσ H Q m=>by
 obtain⟨W,env,d,env',ok,q,k⟩:=m;cases e1:f env with
 |none=>simp[e1] at q |some r =>
   obtain⟨n,env1⟩:=r;cases e2:fl env1 with
   |none=>simp[e1,e2] at q |some r2 =>
     obtain⟨b,D⟩:=r2;cases e3:V D with
     |none=>simp[e1,e2,e3] at q |some r3 =>
       obtain⟨c,I⟩:=r3;cases n with
       |lst ds =>
         have q:↑(cutD ds b c,I)=↑(d,env'):=by simpa[gT,e1,e2,e3] using q
         cases q;refine⟨W,env,_,_,ok,e1,λW1 v1 H1 o U p1=>⟨W1,env1,_,_,U,e2,λp H2 s2 Y=>⟨p,D,_,_,Y,e3,λs y e Z=>?_⟩⟩⟩;obtain⟨l,us,rfl,h,r⟩:=(U.rep (s2.trans e) p1).lst_;refine⟨l,us,rfl,h.sq,λl' t=>?_⟩;obtain⟨h1,h2,u,v,w,x⟩:=lX Z (r.cut b c) t;exact k s l' _ _ (((o.trans s2).trans e).trans h1) h2 u v w x
       |_=>simp[e1,e2,e3] at q⟩
def KB(K:kf):R2:=λx y H Q=>∃l b xs D,x=.ref l/\y=.ref b/\dI K H l xs/\dI K H b D/\xs.length+D.length<=sizeLine/\∀p,H p=none->Q (.ref p) (aV H p (.lst (xs++D)))
theorem KC:gA X (binaryOp .Add) (KB X.K):=by
 intro pins s σ H x y v u Q I g i h;obtain⟨l,b,xs,w,rfl,rfl,j,k,A,q⟩:=h;cases g;cases i;obtain⟨its,r,⟨⟨cls,dd,data,sl⟩,n,d,m,Y,hd⟩,z⟩:=I.list j;obtain⟨D,e,⟨⟨f,o,data2,Z⟩,p,U,a,V,c⟩,B⟩:=I.list k;subst m hd a c Y V;have C:=r.length;have t:=e.length;refine concat_meets ⟨_,d,rfl⟩ ⟨_,U,rfl⟩ noFill_list_add seq_list_add PySem.F.slot_list_add PySem.F.entry_list_add (PySem.F.args_list_add_2 _ _) (list_addW l b its.toArray D.toArray n p none none sl Z (by simp;lia)) ⟨d,U,?_⟩;have ea:its.toArray++D.toArray=(its++D).toArray:=by simp
 rw[ea];exact⟨.ref _,_,I.lnew (t':=s.toks) (r.append e) (by rw[ak];lia),rfl,q _ I.fresh⟩
@[simp] def cM(f g:FE):FA:=λe=>(f e).bind λr=>(g r.2).bind λq=>match r.1,q.1 with | .lst ds,.lst es=>if bS (ds.length+es.length) then ↑(ds++es,q.2) else none |_,_=>none
def qa(c:aT X G H0 a f)(e:aT X G H0 b g):gI X G H0 (.BinOp a .Add b pos) (cM f g):=⟨(y4 KC c.out e.out).imp λσ H Q i=>by
 obtain⟨W,env,d,env',ok,q,k⟩:=i;cases e1:f env with
 |none=>simp[e1] at q |some r =>
   obtain⟨j,env1⟩:=r;cases e2:g env1 with
   |none=>simp[e1,e2] at q |some r2 =>
     obtain⟨m,D⟩:=r2;cases j with
     |lst ds =>
       cases m with
       |lst es =>
         by_cases U:bS (ds.length+es.length)
         ·have q:↑(ds++es,D)=↑(d,env'):=by simpa only[cM,e1,e2,ac,aq U] using q
          cases q;refine⟨W,env,_,_,ok,e1,λW1 v1 H1 o I p1=>⟨W1,env1,_,_,I,e2,λp v2 H2 s2 V p2=>?_⟩⟩;obtain⟨l,us,rfl,h,r⟩:=(I.rep s2 p1).lst_;obtain⟨l',Y,rfl,h',Z⟩:=p2.lst_;refine⟨l,l',us,Y,rfl,rfl,h.sq,h'.sq,?_,λn s=>?_⟩
          ·rw[<-r.length,<-Z.length];exact d7 U (by rw[i4];decide)
          ·obtain⟨h1,h2,t,u,v,w⟩:=lX V (r.append Z) s
           exact k p n _ _ ((o.trans s2).trans h1) h2 t u v w
         ·simp only[cM,e1,e2,ac,b7 U] at q;cases q
       |_=>simp[e1,e2] at q
     |_=>simp[e1,e2] at q⟩
@[simp] def j6(i:Nat):FE:=λe=>match e[i]? with
 |some ↑(.ow ds)=>↑(.int ds.length,e) |some ⇑(.lst ds)=>↑(.int ds.length,e) |some ⇑(.tup ds)=>↑(.int ds.length,e) |_=>none
variable{p1:Pos}
def mn(an:bR Nn Cn X)(V:Bn X "len":=by walk_at "b")(U:‹Nn[i]?=↑x›)(Y:‹starEach [.Name x p1] X.env=(false,eval (.Name x p1) X.env)::starEach [] X.env›):aT X G H0 (.Call (.Name "len" p') [.Name x p1] [] pos) (j6 i) :=
 ⟨(nG yJ V.g V.m zm (qu ((an.a U).pe) uz Y) (by decide) (by decide) Y rfl).imp λσ H Q Z=>by
  obtain⟨W,env,d,env',ok,q,k⟩:=Z;unfold j6 at q;split at q
  ·rename_i ds D
   cases q;obtain⟨v,I,l,vs,rfl,c,b,r⟩:=ok.slot i _ D;exact⟨_,I,l,vs,rfl,.inl (.inl (.inl b)),by rw[<-r.length];exact k W _ H Step.refl ok ↥_⟩
  ·rename_i ds D
   cases q;obtain⟨v,I,r⟩:=ok.slot i _ D;obtain⟨l,us,rfl,h,r⟩:=a_.lst_ r;exact⟨_,I,l,us,rfl,.inl h.sq,by rw[<-r.length];exact k W _ H Step.refl ok ↥_⟩
  ·rename_i ds D
   cases q;obtain⟨v,I,r⟩:=ok.slot i _ D;obtain⟨l,us,rfl,h,r⟩:=a_.tup_ r;exact⟨_,I,l,us,rfl,.inr (eX.of h),by rw[<-r.length];exact k W _ H Step.refl ok ↥_⟩
  ·cases q⟩
@[simp] def bT:D->Option la->k8
 | .int k,↑↑(.ow ds)=>bF ds k | .int k,↑⇑(.lst ds)=>bF ds k | .int k,↑⇑(.tup ds)=>bF ds k |_,_=>none
@[simp] def aF(i:Nat)(g:FE):FE:=λe=>match e[i]? with
 |some ↑_=>(g e).bind λr=>(bT r.1 r.2[i]?).map λd=>(d,r.2)
 |_=>none
def fy(n:aT X G H0 b g)(an:bR Nn Cn X)(o:lQ b:=by intro _ _;rfl)(c:‹Nn[i]?=↑x›):aT X G H0 (.Subscript (.Name x p1) b pos) (aF i g) :=
 ⟨(pT D2 ((an.a c).pe) n.out o).imp λσ H Q p=>by
  obtain⟨W,env,d,env',ok,q,k⟩:=p;unfold aF at q;split at q;case h_2=>cases q
  rename_i t e;obtain⟨v,Z,_⟩:=ok.slot i _ e;cases e1:g env with
  |none=>rw[e1] at q;cases q
  |some r =>
    obtain⟨j,env1⟩:=r;rw[e1,ac] at q;cases e3:bT j env1[i]? with
    |none=>rw[e3] at q;cases q
    |some d' =>
      rw[e3] at q;cases q;refine⟨v,Z,W,env,j,_,ok,e1,λW1 v1 H1 f D p1=>?_⟩;unfold bT at e3;split at e3
      ·rename_i kk ds U
       obtain⟨m,I,l,vs,rfl,w,s,r⟩:=D.slot i _ U;rw[Z] at I;cases I;obtain⟨u,V,Y⟩:=nL r e3;exact .inl ⟨l,vs,kk,u,rfl,p1.int_,.inl (.inl s),V,k W1 _ H1 f D Y⟩
      ·rename_i kk ds U
       obtain⟨m,I,r⟩:=D.slot i _ U;rw[Z] at I;cases I;obtain⟨l,us,rfl,h,r⟩:=a_.lst_ r;obtain⟨u,V,Y⟩:=nL r e3;exact .inl ⟨l,us,kk,u,rfl,p1.int_,h.sq,V,k W1 _ H1 f D Y⟩
      ·rename_i kk ds U
       obtain⟨m,I,r⟩:=D.slot i _ U;rw[Z] at I;cases I;obtain⟨l,us,rfl,h,r⟩:=a_.tup_ r;obtain⟨u,V,Y⟩:=nL r e3;exact .inr (.inl ⟨l,us,kk,u,rfl,p1.int_,eX.of h,V,k W1 _ H1 f D Y⟩)
      ·cases e3⟩
@[simp] def lZ:D->String | .non=>"NoneType" | .bl _=>"bool" | .int _=>"int" | .str _=>"str" | .tup _=>"tuple" | .lst _=>"list" | .dct _ _=>"dict" | .exc _=>"exc"
@[simp] def kU(t T:String):Bool:=t==T || (t=="bool" && T=="int")
def zM(T:String):Bool:=T=="int" || T=="bool" || T=="str" || T=="tuple" || T=="list"
def KD(K:kf)(d:D)(T:String)(h:zM T=true)(hd:∀a,d≠.exc a):PySem.W.kitOne K (.type (lZ d)) (.type T)=↑(kU (lZ d) T):=by
 simp only[zM,Bool.or_eq_true,mw] at h;rcases h with(((rfl |rfl) |rfl) |rfl) |rfl <;> cases d <;> first |rfl |exact absurd rfl (hd _)
def KF:t9 X (.builtin "isinstance") (λxs H Q=>∃x T t b,xs=[x,.ty T]/\(fJ X.K H x t\/(t=.type "list"/\∃a us,x=.ref a/\dI X.K H a us))/\PySem.W.kitOne X.K t (.type T)=↑b/\Q (.bl b) H):=by
 intro pins s σ H xs us Q I r h;obtain⟨x,T,t,b,rfl,ty,e,q⟩:=h;obtain⟨u,U,rfl,D,rt⟩:=sX r;cases (show U=Value.type T from rt);rcases ty with ty | ⟨rfl,a,ws,rfl,hq⟩
 ·exact Jt I D ty e λtk=>⟨.bl b,H,I.tok tk,rfl,q⟩
 ·cases (show u=Value.ref a from D)
  obtain⟨its,_,⟨o,n,h1,h2,_⟩,_⟩:=I.list hq;exact fz uh I.kIn ⟨o,h1,h2⟩ e (λz=>nomatch z) λtk=>⟨.bl b,H,I.tok tk,rfl,q⟩
def KG(r:a_ K H O d v)(hd:∀a,d≠.exc a):fJ K H v (.type (lZ d))\/(Value.type (lZ d)=.type "list"/\∃a us,v=.ref a/\dI K H a us):=by
 cases r with
 |non=>exact .inl .non |bl b=>exact .inl (.bl b) |int i=>exact .inl ↥i
 |str s=>exact .inl (.str s) |tup h _=>exact .inl (.tup h) |lst o h _=>exact .inr ⟨rfl,_,_,rfl,.inl h⟩ |klst h _=>exact .inr ⟨rfl,_,_,rfl,.inr h⟩ |dct h _=>exact .inl (.dK h) |exc a=>exact absurd rfl (hd a)
def DW:bootBuiltins "isinstance" = ↑(.builtin "isinstance"):=by decide +kernel
@[simp] def fM(T:String)(f:FE):FE:=λe=>(f e).bind λr=>match r.1 with | .exc _=>none |d=>↑(.bl (kU (lZ d) T),r.2)
structure Ty (x:Str) (T:String):Prop where
 b:bootBuiltins x=↑(.type T)
 k:zM T=true
 d:(x==("__debug__" : Str))=false
 n:x ≠ "__name__"
def x0(ty:Ty x T)(e:aT X G H0 a f)(Z:Bn X "isinstance":=by walk_at "b")(D:Gl X x:=by walk_at "g")(I:X.mg x=none:=by assumption)(c:‹starEach [a,.Name x p1] X.env=(false,eval a X.env)::starEach [.Name x p1] X.env›)(U:‹starEach [.Name x p1] X.env=(false,eval (.Name x p1) X.env)::starEach [] X.env›)(V:‹(backTo pos (starEach [.Name x p1] X.env)).any (·.1)=false›) :
  aT X G H0 (.Call (.Name "isinstance" p') [a,.Name x p1] [] pos) (fM T f) :=
 ⟨(nG KF Z.g Z.m DW (qu e.out (qu (CO (v:=.ty T) D I ty.b rfl ty.n ty.d) uz U) c) (by decide) (by decide) c V).imp λσ H Q h=>by
  obtain⟨W,env,d,env',ok,q,k⟩:=h;cases e1:f env with
  |none=>simp[e1] at q |some r =>
    unfold fM at q;rw[e1,ac] at q;split at q
    ·cases q
    ·rename_i hd
     cases q;exact⟨W,env,_,_,ok,e1,λW1 v1 H1 i Y p1=>⟨v1,T,_,_,rfl,KG p1 hd,KD X.K _ T ty.k hd,k W1 _ H1 i Y (.bl _)⟩⟩⟩
abbrev FI:=DE0->Option (k7×DE0)
structure Walk (K:kf) (G:Gd) (J:It) (W:Addr->Prop) (H:Hp) (ds:k7):Prop where
 go:∀W' H' (i:Nat) d,Step W H W' H'->ds[i]?=↑d->J.go i H'/\∀x H'',J.yld i H' x H''->H''=H'/\a_ K H' (Ow G W') d x
 stop:∀W' H',Step W H W' H'->J.stop ds.length H'
def zN(K:kf)(G:Gd)(H0:Hp)(f:FI):TI:=λσ H R=>DP K G H0 f (λW env ds env' =>
 ∀W' J H',Step W H W' H'->Ok K G H0 W' env' σ H'->Walk K G J W' H' ds->R J H') σ H
structure tN (Cm:Cx->Prop) (X:Cx) (G:Gd) (H0:Hp) (tg:Expr) (e:Expr) (f:FI):Prop where
 out:kN Cm X tg e (zN X.K G H0 f)
abbrev jJ:=tN λX=>X.calm=true
def PI.imp(h:PI X tg e t)(i:∀σ H Q,t' σ H Q->t σ H Q):PI X tg e t':=λpins s σ H Q I q=>h pins s σ H Q I (i σ H Q q)
def kN.imp(h:kN Cm X tg e t)(i:∀σ H Q,t' σ H Q->t σ H Q):kN Cm X tg e t':=λpins s σ H Q I q=>h pins s σ H Q I (i σ H Q q)
def DX{a:Addr}(ok:Ok X.K G H0 W env σ H)(h:gZ X.K H (Ow G W) a vs)(r:aK X.K H (Ow G W) ds vs):Walk X.K G (xX X.K a) W H ds where
 go:=λW' H' i d st e=>by
  obtain⟨v,D,I⟩:=(ok.reps st r).get e;have h':=(ok.lsstep st h).sq;exact⟨⟨vs,v,h',D⟩,λx H'' ⟨e2,y⟩=>⟨e2,by have:=y vs h';rw[D] at this;cases this;exact I⟩⟩
 stop:=λW' H' st=>⟨vs,(ok.lsstep st h).sq,by rw[r.length];exact b9 _⟩
def KH{a:Addr}(ok:Ok X.K G H0 W env σ H)(h:H a=↑(.tup vs))(r:aK X.K H (Ow G W) ds vs):Walk X.K G (xY X.K a) W H ds where
 go:=λW' H' i d st e=>by
  obtain⟨v,D,I⟩:=(ok.reps st r).get e;have h':=ok.tstep st a vs h;exact⟨⟨vs,v,eX.of h',D⟩,λx H'' ⟨e2,y⟩=>⟨e2,by have:=y vs (eX.of h');rw[D] at this;cases this;exact I⟩⟩
 stop:=λW' H' st=>⟨vs,eX.of (ok.tstep st a vs h),by rw[r.length];exact b9 _⟩
def DY{lo:Int}:Walk X.K G (kO lo n) W H ((List.range n).map λ(k:Nat)=>D.int (lo+(k:Int))) where
 go:=λW' H' i d st e=>by
  rw[b8] at e;have hi:i<n:=by
   have:=(aj.mp (show((List.range n).map λ(k:Nat)=>D.int (lo+(k:Int)))[i]?=↑d by rw[b8];exact e)).1;simpa using this
  rw[ko hi] at e;cases e;exact⟨hi,λx H'' ⟨e2,y⟩=>⟨e2,by rw[y];exact .int _⟩⟩
 stop:=λW' H' st=>by rw[ah,jg];exact b9 _
@[simp] def cV(f:FE):FI:=λe=>(f e).bind λr=>match r.1 with | .lst ds=>↑(ds,r.2) | .tup ds=>↑(ds,r.2) |_=>none
def PI.or(h:PI X tg e t)(h':PI X tg e t'):PI X tg e (λσ H R=>t σ H R\/t' σ H R):=λpins s σ H R I q=>q.elim (h pins s σ H R I) (h' pins s σ H R I)
def lv(h:aT X G H0 e f):jJ X G H0 tg e (cV f):=⟨((CW h.out).or (IN h.out)).imp λσ H R U=>by
 obtain⟨W,env,ds,env',ok,q,k⟩:=U;cases e1:f env with
 |none=>simp[e1] at q |some r =>
   obtain⟨d,env1⟩:=r;cases d with
   |lst ds' =>
     have q:↑(ds',env1)=↑(ds,env'):=by simpa[cV,e1] using q
     cases q;refine .inl ⟨W,env,_,_,ok,e1,λW1 v1 H1 I D p1=>?_⟩;obtain⟨a,vs,rfl,h.out,r⟩:=p1.lst_;exact⟨a,rfl,⟨vs,h.out.sq⟩,k W1 _ H1 I D (DX D h.out r)⟩
   |tup ds' =>
     have q:↑(ds',env1)=↑(ds,env'):=by simpa[cV,e1] using q
     cases q;refine .inr ⟨W,env,_,_,ok,e1,λW1 v1 H1 I D p1=>?_⟩;obtain⟨a,vs,rfl,h.out,r⟩:=p1.tup_;exact⟨a,rfl,⟨vs,eX.of h.out⟩,k W1 _ H1 I D (KH D h.out r)⟩
   |_=>simp[e1] at q⟩
def cG(lo:Int)(n:Nat):k7:=(List.range n).map λ(k:Nat)=>D.int (lo+(k:Int))
def gB(ds:k7):Option k7:=match ds with | [↥j]=>if jB (-(2 ^ 62)) (2 ^ 62) j then ↑(cG 0 j.toNat) else none |_=>none
def nO(ds:k7):Option k7:=match ds with | [↥i,↥j]=>if jB (-(2 ^ 62)) (2 ^ 62) i/\jB (-(2 ^ 62)) (2 ^ 62) j then ↑(cG i (j-i).toNat) else none |_=>none
def DZ(hT:∀(it:Addr) (lo:Int) (n:Nat),lM Cm X.prog X.w X.K tg (kO lo n) [it] it (λi h=>IsRangeIter h it (lo+(i:Nat)*1) ((n:Int)-(i:Nat)) 1))(V:fG X G H0 [a] F)(I:Bn X "range":=by walk_at "b")(Y:‹starEach [a] X.env=[(false,eval a X.env)]›):tN Cm X G H0 tg (.Call (.Name "range" p') [a] [] pos) (jv gB F) :=
 ⟨kN.imp (IR hT I.g I.m V.out Y) λσ H R Z=>by
  obtain⟨W,env,ds,env',ok,q,k⟩:=Z;cases e1:F env with
  |none=>simp[e1] at q |some z =>
    obtain⟨as,env1⟩:=z;cases e2:gB as with
    |none=>simp[e1,e2] at q |some d' =>
      have q:↑(d',env1)=↑(ds,env'):=by simpa[jv,e1,e2] using q
      cases q;refine⟨W,env,as,_,ok,e1,λW1 vs H1 b D p1=>?_⟩;unfold gB at e2;split at e2
      ·rename_i j
       split at e2
       ·rename_i U
        cases e2;obtain⟨v,rfl,c⟩:=vw p1;cases c;exact⟨j,rfl,U.1,U.2,k W1 _ H1 b D DY⟩
       ·cases e2
      ·cases e2⟩
def yc(D:fG X G H0 [a] F)(I:Bn X "range":=by walk_at "b")(U:‹starEach [a] X.env=[(false,eval a X.env)]›):jJ X G H0 tg (.Call (.Name "range" p') [a] [] pos) (jv gB F):=DZ (λit lo n=>pN it lo n) D I U
def KI(Y:fG X G H0 [a,b] F)(V:Bn X "range":=by walk_at "b")(Z:‹starEach [a,b] X.env=[(false,eval a X.env),(false,eval b X.env)]›)(I:‹starEach [b] X.env=[(false,eval b X.env)]›) :
  jJ X G H0 tg (.Call (.Name "range" p') [a,b] [] pos) (jv nO F) :=
 ⟨(IS V.g V.m Y.out Z I).imp λσ H R c=>by
  obtain⟨W,env,ds,env',ok,q,k⟩:=c;cases e1:F env with
  |none=>simp[e1] at q |some z =>
    obtain⟨as,env1⟩:=z;cases e2:nO as with
    |none=>simp[e1,e2] at q |some d' =>
      have q:↑(d',env1)=↑(ds,env'):=by simpa[jv,e1,e2] using q
      cases q;refine⟨W,env,as,_,ok,e1,λW1 vs H1 d U p1=>?_⟩;unfold nO at e2;split at e2
      ·rename_i i j
       split at e2
       ·rename_i D
        cases e2;obtain⟨v,h,rfl,e,f⟩:=tJ p1;cases e;cases f;exact⟨i,j,rfl,⟨D.1.1,D.1.2,D.2.1,D.2.2⟩,k W1 _ H1 d U DY⟩
       ·cases e2
      ·cases e2⟩
def gN:la->la |some (.sh d)=>⇑d |_=>none
def tw(tt:FT)(te:FE)(base:DE0):List D->Option (List D)
 | []=>↑[] |d::r=>(tt (⇑d::base)).bind λb=>if b.1=true then(te b.2).bind λv=>(tw tt te base r).map (v.1::·) else tw tt te base r
def kj(fi:FI)(ix:ic)(tt:FT)(te:FE):FA:=λe=>(fi e).bind λr=>if bS r.1.length then(tw tt te (ix.map λj=>gN (r.2.getD j none)) r.1).map λds=>(ds,r.2) else none
@[simp] def cA:FT:=λe=>↑(true,e)
def g_(K:kf)(f:FT):TT:=λσ H Q=>∃G H0,tG K G H0 f σ H Q
def l_(K:kf)(f:FE):TE:=λσ H Q=>∃G H0,tD K G H0 f σ H Q
def dA:Addr->Prop:=λ_=>False
variable{cap:la->la}
def zO{pre:DE0}{σp:St}(ok:Ok X.K G H0 W env σ H)(b:∀a,H a=none->G' a)(U:pre.length=σp.length)(c:∀(i:Nat) (s:Sl),pre[i]?=↑↑s->∃d u,s=.sh d/\σp[i]?=↑↑u/\a_ X.K H (Ow G' dA) d u)(f:∀(Y s:Sl) (u:V),cap ↑Y=↑s->dW X.K G W H Y u->∃d,s=.sh d/\a_ X.K H (Ow G' dA) d u)(Z:cap none=none) :
  Ok X.K G' H dA (pre++ix.map λj=>cap (env.getD j none)) (σp++ix.map λj=>σ.getD j none) H:=by
 have D:∀(i:Nat) (s:Sl),(pre++ix.map λj=>cap (env.getD j none))[i]?=↑↑s->∃d u,s=.sh d/\(σp++ix.map λj=>σ.getD j none)[i]?=↑↑u/\a_ X.K H (Ow G' dA) d u:=λi s z=>by
  by_cases hi:i<pre.length
  ·rw[bg hi] at z
   rw[bg (U ▸ hi)];exact c i s z
  ·have hi:=js hi
   rw[dc hi,b8] at z;rw[dc (U ▸ hi),<-U,b8];obtain⟨j,q,z⟩:=gf.mp z;rw[q,bn] at *;cases q2:env[j]? with
   |none=>rw[q2] at z;exact absurd (Z.symm.trans z) nofun |some o =>
     rw[q2] at z;cases o with
     |none=>exact absurd (Z.symm.trans z) nofun |some Y =>
       obtain⟨u,I,r⟩:=ok.slot j _ q2;obtain⟨d,g,r⟩:=f Y s u z r;exact⟨d,u,g,by rw[ai,bn,I];rfl,r⟩
 refine⟨bB.refl _,b,λl z=>z.elim,λi s e=>?_,λi j h s2 v1 v2 a I _ _ _ o _=>by obtain⟨d',_,rfl,_⟩:=D i h I;exact o.elim,by simp[U]⟩;obtain⟨d,u,rfl,I,r⟩:=D i s e;exact⟨u,I,r⟩
def D_(U:∀ {d:D} {v:V},a_ X.K H (Ow G W) d v->a_ X.K H (Ow G' dA) d v):∀(I s:Sl) (u:V),gN ↑I=↑s->dW X.K G W H I u->∃d,s=.sh d/\a_ X.K H (Ow G' dA) d u:=λI s u z r=>by
 cases I <;> cases z;exact⟨_,rfl,U r⟩
def Ea(ok:Ok X.K G H0 W env σ H)(r:a_ X.K H (Ow G W) d v) :
  Ok X.K (gd λa=>Ow G W a\/H a=none) H dA (⇑d::ix.map λj=>gN (env.getD j none)) (↑v::ix.map λj=>σ.getD j none) H:=by
 have I:∀ {d:D} {v:V},a_ X.K H (Ow G W) d v->a_ X.K H (Ow (gd λa=>Ow G W a\/H a=none) dA) d v:=λr=>r.mono (λ_ _ h=>h) λa us o h=>⟨⟨.inl o,λz=>z⟩,h⟩;refine zO (pre:=[⇑d]) (σp:=[↑v]) ok (λa z=>.inr z) rfl (λi s z=>?_) (D_ I) rfl;cases i with
 |zero=>cases z;exact⟨d,v,rfl,rfl,I r⟩
 |succ i=>cases z
inductive jV (K:kf) (O:Addr->Prop) (H1:Hp) (ds d:k7) (f:k7->Option k7) (i m:Nat) (H':Hp) (ys:k6):Prop
 |mk (rest done:k7) (hm:m=ds.length-i) (hi:i<=ds.length) (sm:bB H1 H') (rp:aK K H' O done ys) (hd:done.length<=i) (ec:f (ds.drop i)=↑rest) (hz:d=done++rest):jV K O H1 ds d f i m H' ys
def tO:2 ^ 20<=sizeLine:=by rw[i4];decide
structure Eb (K:kf) (G:Gd) (J:It) (W:Addr->Prop) (H:Hp) (ds:k7):Prop where
 go:∀H' (i:Nat) d,bB H H'->ds[i]?=↑d->J.go i H'/\∀x H'',J.yld i H' x H''->H''=H'/\a_ K H' (Ow G W) d x
 stop:∀H',bB H H'->J.stop ds.length H'
protected def Walk.s(D:Walk K G J W H ds):Eb K G J W H ds:=⟨λH2 i d sm e=>D.go W H2 i d (Step.same sm) e,λH2 sm=>D.stop W H2 (Step.same sm)⟩
def tP(K:kf)(G:Gd)(H0:Hp)(f:FI):TI:=λσ H R=>DP K G H0 f (λW env ds env' =>
 ∀W' J H',Step W H W' H'->Ok K G H0 W' env' σ H'->Eb K G J W' H' ds->R J H') σ H
variable{tt:FT}{te:FE}{fn:k7->Option k7}{env1:DE0}
def Ec{d rest I:k7}{o:DE0}{Y:St}(s:bS ds.length)(U:i<ds.length)(l:Ok X.K G' H2 dA o Y H2)(f:Ok X.K G H0 W1 env1 σ H2)(sm:bB H1 H2)(m:aK X.K H2 (Ow G W1) I ys)(hd:I.length<=i)(n:d=I++rest)(c:((tt o).bind λb=>if b.1=true then(te b.2).bind λv=>(fn (ds.drop (i+1))).map (v.1::·) else fn (ds.drop (i+1)))=↑rest)(back:∀ {p g e w},a_ X.K g (Ow G' p) e w->e∈d->a_ X.K g (Ow G W1) e w) :
  g_ X.K tt Y H2 λb H2=>if b=true then l_ X.K te Y H2 λv g=>ys.length<sizeLine/\∃h,h<ds.length-i/\jV X.K (Ow G W1) H1 ds d fn (i+1) h g (ys++[v]) else ∃h,h<ds.length-i/\jV X.K (Ow G W1) H1 ds d fn (i+1) h H2 ys:=by
 obtain⟨⟨b,V⟩,t,c⟩:=di.mp c;refine⟨_,_,dA,_,b,V,l,t,λu H2 s2 Z=>?_⟩;have q:ds.length-(i+1)<ds.length-i:=qd _ _ U;cases b with
 |false=>exact⟨_,q,rest,I,rfl,U,sm.trans Z.stay,f.reps (Step.same Z.stay) m,uk hd,c,n⟩ |true =>
   obtain⟨⟨e,j⟩,x,c⟩:=di.mp c;obtain⟨a,y,r⟩:=gf.mp c;refine⟨_,_,u,V,e,j,Z,x,λp v g z k r3=>⟨?_,_,q,a,I++[e],rfl,U,sm.trans k.stay,(f.reps (Step.same k.stay) m).append (.cons (back r3 (by rw[n,<-r];simp)) .nil),?_,y,?_⟩⟩
   ·rw[<-m.length];exact b6 (tj hd (b6 U s)) tO
   ·rw[ak];exact Nat.succ_le_succ hd
   ·rw[n,<-r,cx];rfl
def Ed{d rest I:k7}(b:bS ds.length)(U:i<=ds.length)(V:¬i<ds.length)(Y:Ok X.K G H0 W1 env1 σ H')(c:Step W H W1 H1)(sm:bB H1 H')(Z:aK X.K H' (Ow G W1) I ys)(hd:I.length<=i)(e:d=I++rest)(a:fn (ds.drop i)=↑rest)(f:fn []=↑[])(k:∀W' l vs H',Step W H (cF W' l) H'->Ok X.K G H0 W' env1 σ H'->Ok X.K G H0 (cF W' l) env1 σ H'->¬W' l->H' l=↑(.lst vs)->aK X.K H' (Ow G (cF W' l)) d vs->Q (.ref l) H'):ys.length<=sizeLine/\∀D,H' D=none->Q (.ref D) (aV H' D (.lst ys)):=by
 cases l7 U (js V);rw[vq,f] at a;cases a;refine⟨by rw[<-Z.length];exact d7 hd (d7 b tO),λl g=>?_⟩;obtain⟨h1,h2,h,j,m,n⟩:=lX Y Z g;rw[e,du] at k;exact k W1 l _ _ ((c.trans (Step.same sm)).trans h1) h2 h j m n
variable{fi:FI}
def Ee{c:FA}{pr:D->Prop}(p:∀ {e d e'},c e=↑(d,e')->∃ds,fi e=↑(ds,e')/\bS ds.length/\tw tt te (ix.map λj=>cap (e'.getD j none)) ds=↑d/\∀x∈d,pr x)(hi:∀ {W env σ H d v},Ok X.K G H0 W env σ H->a_ X.K H (Ow G W) d v->∃G',Ok X.K G' H dA (⇑d::ix.map λj=>cap (env.getD j none)) (↑v::ix.map λj=>σ.getD j none) H/\∀ {W3 H3 dv w},a_ X.K H3 (Ow G' W3) dv w->pr dv->a_ X.K H3 (Ow G W) dv w) :
  ∀σ H Q,iA X.K G H0 c σ H Q->yw (tP X.K G H0 fi) ix (g_ X.K tt) (l_ X.K te) σ H Q:=λσ H Q z=>by
 obtain⟨W,env,d,env1,ok,q,k⟩:=z;obtain⟨ds,s,f,t,u⟩:=p q;refine⟨W,env,ds,_,ok,s,λW1 J H1 A Y g=>⟨jV X.K (Ow G W1) H1 ds d (tw tt te (ix.map λj=>cap (env1.getD j none))),⟨ds.length,d,[],rfl,ib _,bB.refl _,.nil,b9 _,t,rfl⟩,λi m H' ys z=>?_⟩⟩;obtain⟨rest,l,B,V,sm,n,hd,Z,o⟩:=z;subst B;have U:=Y.same sm;by_cases I:i<ds.length
 ·rw[ij I] at Z
  obtain⟨C,E⟩:=g.go H' i ds[i] sm (am I);refine .inr ⟨C,λx a y=>?_⟩;obtain⟨e,F⟩:=E x a y;subst e;obtain⟨G',b,back⟩:=hi U F;exact Ec f I b U sm n hd o Z λr h=>back r (u _ h)
 ·exact .inl ⟨by cases l7 V (js I);exact g.stop H' sm,Ed f V I U A sm n hd o Z rfl k⟩
def zP:∀σ H Q,iA X.K G H0 (kj fi ix tt te) σ H Q->yw (tP X.K G H0 fi) ix (g_ X.K tt) (l_ X.K te) σ H Q :=
 Ee (cap:=gN) (pr:=λ_=>True) (λq=>by
  obtain⟨⟨ds,env1⟩,U,q⟩:=di.mp q;by_cases D:bS ds.length;case neg=>cases (b7 D).symm.trans q
  obtain⟨I,V,q⟩:=gf.mp ((aq D).symm.trans q);cases q;exact⟨ds,U,D,V,λ_ _=>trivial⟩) λok r=>⟨_,Ea ok r,λr3 _=>r3.mono (λ_ _ h=>h) λa us o h=>⟨o.1.elim (λz=>z) λz=>⟨ok.good a (ok.stay.free z),λw=>by obtain⟨_,us,q⟩:=ok.wl a w;rw[z] at q;cases q⟩,h⟩⟩
def tQ:∀σ H Q,iA X.K G H0 (kj fi ix tt te) σ H Q->yw (zN X.K G H0 fi) ix (g_ X.K tt) (l_ X.K te) σ H Q:=λσ H Q z=>by
 obtain⟨W,env,ds,env',ok,e,k⟩:=zP σ H Q z;exact⟨W,env,ds,env',ok,e,λW' J H' s o w=>k W' J H' s o w.s⟩
variable{X':Cx}
def nP(U:X'.K=X.K):gY X' [] (g_ X.K cA):=λpins s σ H Q I D=>by
 obtain⟨G,H0,W,env,b,env',ok,e,k⟩:=D;cases e;exact Kc pins s σ H Q I (k W H Step.refl ok)
def mv(D:X'.K=X.K)(h:∀G H0,gM X' G H0 c tt):gY X' [c] (g_ X.K tt):=λpins s σ H Q I ⟨G,H0,q⟩=>Kd (h G H0).out pins s σ H Q I (by rw[D];exact q)
def gC(D:X'.K=X.K)(h:∀G H0,aT X' G H0 e te):PE X' e (l_ X.K te):=λpins s σ H Q I ⟨G,H0,q⟩=>(h G H0).out pins s σ H Q I (by rw[D];exact q)
def x8(an:bR Nn Cn X)(hi:jJ X G H0 (.Name x px) a fi)(I:∀cl C s₂ H₂ fp G H0,bR (x::(aU Nn ix)) (aU Nn ix) (lr X x (aU Nn ix) sc cl C s₂ H₂ fp)->aT (lr X x (aU Nn ix) sc cl C s₂ H₂ fp) G H0 e te)(D:vg Nn Cn ix x sc=true:=by decide +kernel)(U:‹X.calm=true›)(V:∀v,foldedSetIterable a X.env v=pure v:=by intro _;rfl) :
  gI X G H0 (.ListComp e [⟨.Name x px,a,[],0⟩] sc pos) (kj fi ix cA te) :=
 ⟨(yY (zb an D) (λ_ _ _ _ _ _ _ _ _=>U) hi.out (λcl C s₂ H₂ fp _=>nP (X:=X) rfl) (λcl C s₂ H₂ fp _=>gC (X:=X) rfl (λG H0=>I cl C s₂ H₂ fp G H0 (wg D))) V).imp tQ⟩
def Ef{cd:Expr}(an:bR Nn Cn X)(hi:jJ X G H0 (.Name x px) a fi)(I:∀cl C s₂ H₂ fp G H0,bR (x::(aU Nn ix)) (aU Nn ix) (lr X x (aU Nn ix) sc cl C s₂ H₂ fp)->gM (lr X x (aU Nn ix) sc cl C s₂ H₂ fp) G H0 cd tt)(U:∀cl C s₂ H₂ fp G H0,bR (x::(aU Nn ix)) (aU Nn ix) (lr X x (aU Nn ix) sc cl C s₂ H₂ fp)->aT (lr X x (aU Nn ix) sc cl C s₂ H₂ fp) G H0 e te)(D:vg Nn Cn ix x sc=true:=by decide +kernel)(V:‹X.calm=true›)(Y:∀v,foldedSetIterable a X.env v=pure v:=by intro _;rfl) :
  gI X G H0 (.ListComp e [⟨.Name x px,a,[cd],0⟩] sc pos) (kj fi ix tt te) :=
 ⟨(yY (zb an D) (λ_ _ _ _ _ _ _ _ _=>V) hi.out (λcl C s₂ H₂ fp _=>mv (X:=X) rfl (λG H0=>I cl C s₂ H₂ fp G H0 (wg D))) (λcl C s₂ H₂ fp _=>gC (X:=X) rfl (λG H0=>U cl C s₂ H₂ fp G H0 (wg D))) Y).imp tQ⟩
def gD(h h':Heap):Prop:=∀b o,h.get? b=↑o->∃o',h'.get? b=↑o'
def gD.trans{a b c:Heap}(x:gD a b)(y:gD b c):gD a c:=λp o q=>let ⟨o',e⟩:=x p o q;y p o' e
def zQ{a:Addr}{f:Obj->Obj}(D:∀o,h.get? a=↑o->(h.update a f).get? a=↑(f o)):gD h (h.update a f):=λb o q=>by
 by_cases e:a=b
 ·subst e;exact⟨_,D o q⟩
 ·exact⟨o,(dw _ _ e).trans q⟩
structure kW (B:Heap) (l:ip) (e:Addr) (cls fl:Value) (h:Heap):Prop where
 stay:B.StaysIn h
 new:B.get? e=none
 fr:h.FunFrames B l
 tr:∃oe vs T oT ts,h.get? e=↑oe/\oe.cls=cls/\oe.dict=none/\oe.data=.fields vs/\vs[1]?=↑(.ref T)/\vs[2]?=some .none/\B.get? T=none/\T≠e/\h.get? T=↑oT/\oT.data=.fields ts/\ts[3]?=↑fl
def KJ(o:Obj)(f:k4->k4):(o.mapFields f).dict=o.dict:=by obtain⟨c,d,D,sl⟩:=o;cases D <;> rfl
variable{env:Env}{Q:Unit->Shared->Prop}{e L:Addr}{E:Value->Shared->Prop}{M:Model}{B:Heap}{outer:ip}
def Eg{D:Obj}{vs:k4}{hd:Value}{nx:Bool}(t:A.frames=↑(env::outer))(Z:s.heap.FunFrames B (env::outer))(u:env.frame=↑L)(c:s.heap.get? e=↑D)(gd:D.dict=none)(I:D.data=.fields vs)(k:1<vs.size)(v:vs[2]?=some .none)(k1:B.StaysIn s.heap)(k2:B.get? e=none)(h:∀h',kW B (env::outer) e D.cls (rawInt L) h'->s.heap.UpToSlots h'->gD s.heap h'->Q () { s with heap:=h' }) :
  wpAny M A (do let a <-frameOf env;let pl <-entryPlaceOf L nx;let b <-EntryCells.newEntry hd a .none (rawInt L) .none pl;setField (.ref e) 1 b) Q E s:=by
 have d:e∉(env::outer).filterMap (·.frame):=λz=>by
  obtain⟨_,o,l,w⟩:=Z.mem z;rw[c] at l;cases l;exact w vs I
 refine ax (wpAny_frameOf_fun t Z u λh1 U=>?_);refine ax (wpAny_entryPlaceOf λpl V=>?_);refine ax (ly ?_ (V.sizeOk5 _ _ _ _ _));have m:h1.get? e=↑D:=(U.2.1 e d).trans c;have p:B.StaysIn h1:=λb o q=>(U.2.1 b λz=>by rw[(Z.mem z).1] at q;cases q).trans (k1 b o q);generalize Y:({ cls:=.type "traceback",dict:=none,data:=.fields ([hd,.ref L,.none,rawInt L,.none]++(if pl.isEmpty then List.replicate 6 Value.none else pl)).toArray }:Obj)=ob;have f:∃ts,ob.data=.fields ts/\ts[3]?=↑(rawInt L):=by subst Y;exact⟨_,rfl,by first | (simp;done) | (rcases V with rfl | ⟨_,_,_,_,_,_,_,rfl⟩ <;> simp)⟩
 have g:ob.isFreed=false:=by subst Y;rfl
 have i:=au (h:=h1) ob m;have r:h1.objs.size≠e:=li (bz m);have j:=Obj.data_mapFields I (·.setIfInBounds 1 (Value.ref h1.objs.size));refine wpAny_setField i I k (h _ ?_ ?_ ?_)
 ·refine⟨λb o q=>?_,k2,Z.of_keeps λb o q n=>?_,?_⟩
  ·rw[dw _ _ (λz:e=b=>by rw[<-z,k2] at q;cases q)]
   exact au _ (p b o q)
  ·obtain⟨sl,z⟩:=U.2.2 b o q
   refine⟨{ o with slots:=sl },?_,rfl⟩;rw[dw _ _ (λy:e=b=>by rw[<-y,c] at q;cases q;exact n vs I)];exact au _ z
  ·obtain⟨ts,x,C⟩:=f
   refine⟨_,_,h1.objs.size,ob,ts,iw _ i (Obj.isFreed_of_fields j),Obj.cls_mapFields _ _,(KJ _ _).trans gd,j,by simp[k],by rw[Array.getElem?_setIfInBounds_ne (by decide)];exact v,p.fresh,r,?_,x,C⟩;rw[dw _ _ (Ne.symm r)];exact db h1 g
 ·intro b o q n
  obtain⟨sl,z⟩:=U.2.2 b o q;refine⟨sl,?_⟩;rw[dw _ _ (λy:e=b=>by rw[<-y,c] at q;cases q;exact n vs I)];exact au _ z
 ·intro b o q
  obtain⟨sl,z⟩:=U.2.2 b o q;exact zQ (λo q=>iw _ q (by rw[i] at q;cases q;exact Obj.isFreed_of_fields j)) b _ (au _ z)
variable{l:ip}{cls:Value}
def zR(x:kW B l e cls fl s.heap)(h:∀h',kW B l e cls .none h'->s.heap.UpToSlots h'->gD s.heap h'->Q () { s with heap:=h' }):wpAny M A (setFlight (.ref e) none) Q E s:=by
 obtain⟨j,vs,T,k,ts,V,d,gd,Y,Z,g,a,c,D,I,i⟩:=x.tr;have sz:3<ts.size:=(my.mp i).1;unfold setFlight;refine ax (lq V Y Z ?_);have U:=Obj.data_mapFields I (·.setIfInBounds 3 ((none:Option Addr).elim Value.none λf=>rawInt f));refine wpAny_setField D I sz (h _ ⟨λb o q=>?_,x.new,x.fr.of_keeps λb o q n=>⟨o,?_,rfl⟩,_,vs,T,_,_,(dw _ _ c).trans V,d,gd,Y,Z,g,a,c,iw _ D (Obj.isFreed_of_fields U),U,by simp[sz]⟩ (λb o q n=>⟨o.slots,?_⟩) (zQ λo q=>iw _ q (by rw[D] at q;cases q;exact Obj.isFreed_of_fields U)))
 ·exact(dw _ _ λz=>by rw[<-z,a] at q;cases q).trans (x.stay b o q)
 ·exact(dw _ _ λz=>by rw[<-z,D] at q;cases q;exact n ts I).trans q
 ·exact(dw _ _ λz=>by rw[<-z,D] at q;cases q;exact n ts I).trans q
def KM(d:A.frames=↑(env::outer))(U:env.frame=↑L)(x:kW B (env::outer) e cls .none s.heap)(h:∀h',kW B (env::outer) e cls (rawInt L) h'->s.heap.UpToSlots h'->gD s.heap h'->Q () { s with heap:=h' }):wpAny M A (noteFrame (.ref e) env) Q E s:=by
 obtain⟨k,vs,T,l,ts,V,f,gd,Y,Z,g,i,j,D,I,a⟩:=x.tr;subst f;unfold noteFrame;simp only[U];refine ax (lq V Y Z ?_);refine ax (lq D I a ?_);refine ax (wpAny_setField D I (my.mp a).1 ?_);have c:∀b o,s.heap.get? b=↑o->(∀vs,o.data≠.fields vs)->(s.heap.update T (Obj.mapFields (·.setIfInBounds 3 Value.none))).get? b=↑o:=λb o q n =>
  (dw _ _ λz=>by rw[<-z,D] at q;cases q;exact n ts I).trans q
 refine Eg d (x.fr.of_keeps λb o q n=>⟨o,c b o q n,rfl⟩) U ((dw _ _ j).trans V) gd Y (my.mp Z).1 g (λb o q=>(dw _ _ λz=>by rw[<-z,i] at q;cases q).trans (x.stay b o q)) x.new λh' y u w=>h h' y (λb o q n=>u b o (c b o q n) n) (gD.trans (zQ λo q=>iw _ q (by rw[D] at q;cases q;exact Obj.isFreed_of_fields (Obj.data_mapFields I _))) w)
def KN(D:A.frames=↑(env::outer))(I:env.frame=↑L)(x:kW B (env::outer) e cls .none s.heap)(h:∀h',kW B (env::outer) e cls .none h'->s.heap.UpToSlots h'->gD s.heap h'->Q () { s with heap:=h' }):wpAny M A (noteFrame (.ref e) env) (λ_ U=>wpAny M A (setFlight (.ref e) none) Q E U) E s :=
 KM D I x λh1 V Y Z=>zR V λh2 a b c=>h h2 a (Y.trans b) (Z.trans c)
def KO{D:Heap}{args:h7}(V:A.frames=↑(env::outer))(Y:D.FunFrames B (env::outer))(I:env.frame=↑L)(k1:B.StaysIn D)(m:Heap.MadeExcOf D s.heap e cls args)(h:∀h',kW B (env::outer) e cls .none h'->s.heap.UpToSlots h'->gD s.heap h'->Q () { s with heap:=h' }):wpAny M A (noteFrame (.ref e) env) (λ_ Z=>wpAny M A (setFlight (.ref e) none) Q E Z) E s:=by
 obtain⟨t,U,_,_⟩:=m.there;have k2:B.get? e=none:=by
  cases q:B.get? e with
  |none=>rfl |some o=>have:=k1 e o q;rw[m.new] at this;cases this
 unfold noteFrame;simp only[I];refine ax (lq U rfl (x:=Value.none) rfl ?_);exact Eg V (Y.of_keeps λb o q _=>⟨o,m.keeps b o q,rfl⟩) I U rfl rfl ⋯ rfl (λb o q=>m.keeps b o (k1 b o q)) k2 λh1 a c d=>zR a λh2 f g i=>h h2 f (c.trans g) (d.trans i)
end L2
namespace L2
open PySem PySem.Spec PyProof.Rows PySem.W
def Cl(K:kf)(c:Str)(C:Addr):Prop:=PySem.W.nsIn K mainGlobals c=↑↑(.ref C)
def jC(P:Program)(w:World)(l:ip)(H:Hp)(s:Shared)(C e:Addr)(H':Hp)(s':Shared):Prop :=
 ∃B,kW B l e (.ref C) .none s'.heap/\(∀b o,s.heap.get? b=↑o->H b=none->b∉fF l->B.get? b=↑o)/\e_ P w H' B/\Un (fF l) [] H H' s.heap s'.heap/\s'.os=s.os/\AllBare s'.gens
abbrev dX(P:Program)(w:World):iP:=λl H s E e s'=>∃ea C H',e=.ref ea/\jC P w l H s C ea H' s'/\E (.ref C) none H'
def XS(X:Cx)(pins:kv)(σ:St)(H:Hp)(C e:Addr)(s':Shared):Prop :=
 (∃s H1,Inv X pins σ H1 s/\jC X.prog X.w X.stack H1 s C e H s')\/∃s args,Inv X pins σ H s/\Heap.MadeExcOf s.heap s'.heap e (.ref C) args/\s'={ s with heap:=s'.heap }
variable{CX:iP}{P:Program}{w:World}{K:kf}{mg:Str->h8}{base:Heap}{x qual:Str}{st:Stmt}{f:Addr}{fd:FuncData}{N ps:h6}{k:Nat}{sp:Sp}
theorem h_.okX(F:h_ K x qual st f fd)(S:we N ps (i9 st))(len:∀vs H Q E,sp vs H Q E->vs.length=ps.length)(D:∀(cdv:Value) (A:Around) (outer:ip) (s:Shared) (H:Hp) (vs:k6) (Q:VK) (E:XK),bC k (A.deeper (envOfC qual (i9 st) s.heap.objs.size f cdv))->sp vs H Q E ->
   ∃t,hU (cI CX P w K mg base N qual (i9 st) f cdv A outer s H E) (pf st) t/\t { nx:=λ_ H'=>Q .non H',rt:=Q } (start N vs) H):cK P w K mg base CX (k+1) f fd ps sp:=by
 obtain⟨oc,od,kV,Y,b,an,cdv,ct,osl,rfl,Z,I⟩:=F.ex;exact J0 Z I S len λA outer s H vs Q E a U=>D cdv A outer s H vs Q E a U
theorem h_.okC(F:h_ K x qual st f fd)(S:we N ps (i9 st))(len:∀vs H Q E,sp vs H Q E->vs.length=ps.length)(D:∀(cdv:Value) (A:Around) (outer:ip) (s:Shared) (H:Hp) (vs:k6) (Q:VK) (E:XK),bC k (A.deeper (envOfC qual (i9 st) s.heap.objs.size f cdv))->sp vs H Q E ->
   ∃t,hU (cI CX P w K mg base N qual (i9 st) f cdv A outer s H E).nox (pf st) t/\t { nx:=λ_ H'=>Q .non H',rt:=Q } (start N vs) H):cK P w K mg base CX (k+1) f fd ps sp :=
 F.okX S len λcdv A outer s H vs Q E I h=>let ⟨t,p,q⟩:=D cdv A outer s H vs Q E I h;⟨t,p.nox,q⟩
variable{X:Cx}{pins:kv}{σ:St}{H H':Hp}{s s':Shared}{C e:Addr}
def jC.inv(I:Inv X pins σ H s)(f:jC X.prog X.w X.stack H s C e H' s'):Inv X pins σ H' s':=by
 obtain⟨B,x,_,D,un,os,U⟩:=f;exact I.call' (ch:=[]) os un (D.kept x.stay) U λb z=>absurd z ⋯
def XS.come{E:Value->Shared->Prop}{Q:Unit->Shared->Prop}(h:XS X pins σ H' C e s')(V:X.stack=X.env::X.outer)(p:X.env.frame=↑X.env.locals)(r:∀h2 D H1,Inv X pins σ H1 D->jC X.prog X.w X.stack H1 D C e H' { s' with heap:=h2 }->Q () { s' with heap:=h2 }):wpAny (model X.prog X.w) X.A (noteFrame (.ref e) X.env) (λ_ D=>wpAny (model X.prog X.w) X.A (setFlight (.ref e) none) Q E D) E s':=by
 rcases h with⟨D,H1,I,f⟩ | ⟨D,args,I,m,es⟩
 ·obtain⟨B,x,s,t,un,os,v⟩:=f
  have st:=I.stack;rw[V] at x st;refine KN (I.ok.frames.trans (by rw[V])) p x λh2 Y g Z=>r h2 D H1 I ⟨B,V ▸ Y,s,t,⟨λb o q n U _=>Y.stay b o (s b o q n U),λb o q n U i=>?_,un.free,λb o q i=>?_,un.tups,un.frzs,un.tbls⟩,os,v⟩
  ·obtain⟨sl,z⟩:=un.slot b o q n U i
   rw[V] at U;obtain⟨_,F,y,j⟩:=st.mem U;rw[q] at y;cases y;obtain⟨k,G⟩:=g b _ z j;exact⟨k,G⟩
  ·obtain⟨o',z⟩:=un.there b o q i
   exact Z b o' z
 ·have st:=I.stack
  have H:∀b∈fF X.stack,H' b=none:=I.stkFree;have d:∀b o,H' b=↑o->b∉fF X.stack:=λb o q z=>by rw[H b z] at q;cases q
  have l:e_ X.prog X.w H' (hideAll D.heap (fF X.stack)):=λb o q =>
   (I.hok b o q).stay (λc u hc z=>hideAll_get _ z (by rcases hc with rfl |hc;exact d _ _ q;exact d _ _ hc)) (λ_ z=>z) λ_ _ z=>z
  have J:D.heap.FunFrames (hideAll D.heap (fF X.stack)) (X.env::X.outer):=V ▸ funFrames_hide (as:=fF X.stack) st λenv Z a K=>tm.mpr ⟨env,Z,K⟩;refine KO (B:=hideAll D.heap (fF X.stack)) (I.ok.frames.trans (by rw[V])) J p (λb o q=>of_hideAll _ q) m λh2 Y g Z=>r h2 D H' I ⟨_,V ▸ Y,λb o q n U=>hideAll_get _ q U,l,⟨λb o q n U _=>Y.stay b o (hideAll_get _ q U),λb o q n U _=>?_,λ_ _ _ n _=>n,λb o q _=>Z b o (m.keeps b o q),λ_ _ z=>z,λ_ _ _ z=>z,λ_ ps z=>⟨#[],by rw[Array.append_empty];exact z⟩⟩,by rw[es],by rw[es];exact I.bare⟩;obtain⟨_,F,y,j⟩:=st.mem U;rw[q] at y;cases y;exact g b o (m.keeps b o q) j
def zS{scope:Scope}{cd:Value}{A:Around}{outer:ip}{s₀:Shared}{H₀:Hp}{E:XK}(h:XS (cI (dX P w) P w K mg base N qual scope f cd A outer s₀ H₀ E) pins σ H' C e s')(U:E (.ref C) none H'):(cI (dX P w) P w K mg base N qual scope f cd A outer s₀ H₀ E).xe (.ref e) s':=by
 refine ax (h.come rfl rfl λh2 Z H1 I f=>⟨e,C,H',rfl,?_,U⟩);have J:=f.inv I;obtain⟨B,x,V,Y,_⟩:=f;refine⟨B,⟨x.stay,x.new,x.fr.2.2,x.tr⟩,λb o q n D=>?_,Y,J.base,J.os,J.bare⟩;refine V b o (I.base.keep b o q n D (by simp[cI])) (I.base.free b o q n (by simp[cI])) λz=>?_;rcases cr.mp (show b∈s₀.heap.objs.size::fF outer from z) with z |z
 ·rw[z] at q;exact absurd (bz q) (ir _)
 ·exact D z
end L2
namespace L2
open PySem PySem.Spec PyProof.Rows
inductive Fl where
 |nx |bk |ct |rt (d:D) |rf (ds:k7) |r2 (dss:List k7) |xc (c:Str) |ra (k:AK) (ps:k9)
abbrev FS:=DE0->Option (Fl×DE0)
structure N2 (K:kf) (G:Gd) (H0 H:Hp) (l:Addr) (ls:ia) (dss:List k7):Prop where
 nd:(l::ls).Nodup
 new:∀a∈l::ls,H0 a=none
 bZ:H l=↑(.lst (ls.map V.ref))
 len:ls.length=dss.length
 inn:∀(j:Nat) (ds:k7) (a:Addr),dss[j]?=↑ds->ls[j]?=↑a->∃vs,H a=↑(.lst vs)/\aK K H (λb=>G b/\b∉l::ls) ds vs
def eY(X:Cx)(G:Gd)(H0:Hp)(W:Addr->Prop)(H:Hp)(Dn:hZ)(env':DE0):Fl->Prop
 | .nx=>∀W' D H',Step W H W' H'->Ok X.K G H0 W' env' D H'->Dn.nx D H' | .bk=>∀W' D H',Step W H W' H'->Ok X.K G H0 W' env' D H'->Dn.bk D H' | .ct=>∀W' D H',Step W H W' H'->Ok X.K G H0 W' env' D H'->Dn.ct D H' | .rt d=>∀W' D v H',Step W H W' H'->Ok X.K G H0 W' env' D H'->a_ X.K H' (Ow G W') d v->Dn.rt v H' | .rf ds=>∀l vs H',bB H0 H'->H0 l=none->H' l=↑(.lst vs)->aK X.K H' (λa=>G a/\a≠l) ds vs->Dn.rt (.ref l) H'
 | .r2 dss=>∀l ls H',bB H0 H'->N2 X.K G H0 H' l ls dss->Dn.rt (.ref l) H'
 | .xc c=>∀W' D H' C,Cl X.K c C->Step W H W' H'->Ok X.K G H0 W' env' D H'->∀pins e s',XS X pins D H' C e s'->X.xe (.ref e) s' | .ra k ps=>∀W' D p H',Step W H W' H'->Ok X.K G H0 W' env' D H'->dW X.K G W' H' (.ag k none ps) (.ref p)->Dn.rt (.ref p) H'
def tR(X:Cx)(G:Gd)(H0:Hp)(g:FS):TS:=λDn σ H=>DP X.K G H0 g (λW env fl env'=> eY X G H0 W H Dn env' fl) σ H
structure eZ (X:Cx) (G:Gd) (H0:Hp) (s:Stmt) (g:FS):Prop where
 out:PS X s (tR X G H0 g)
structure gE (X:Cx) (G:Gd) (H0:Hp) (s:List Stmt) (g:FS):Prop where
 out:hU X s (tR X G H0 g)
variable{X:Cx}{e:Expr}{t t':TS}
def PS.imp{e:Stmt}(h:PS X e t)(i:∀D σ H,t' D σ H->t D σ H):PS X e t':=λpins s σ H D I q=>h pins s σ H D I (i D σ H q)
def hU.imp{e:List Stmt}(h:hU X e t)(i:∀D σ H,t' D σ H->t D σ H):hU X e t':=λpins s σ H D I q=>h pins s σ H D I (i D σ H q)
variable{G:Gd}{W W1:Addr->Prop}{H0 H H1:Hp}{Dn:hZ}{env':DE0}{fl:Fl}
protected def eY.step(st:Step W H W1 H1)(h:eY X G H0 W H Dn env' fl):eY X G H0 W1 H1 Dn env' fl:=by
 cases fl with
 |nx=>exact λW' D H' s o=>h W' D H' (st.trans s) o |bk=>exact λW' D H' s o=>h W' D H' (st.trans s) o |ct=>exact λW' D H' s o=>h W' D H' (st.trans s) o |rt d=>exact λW' D v H' s o=>h W' D v H' (st.trans s) o |rf ds=>exact h |r2 dss=>exact h |xc c=>exact λW' D H' C z s o=>h W' D H' C z (st.trans s) o |ra k ps=>exact λW' D p H' s o=>h W' D p H' (st.trans s) o
def Fl.out:Fl->Bool | .rt _=>true | .rf _=>true | .r2 _=>true | .xc _=>true | .ra _ _=>true |_=>false
variable{Dn':hZ}
protected def eY.go(I:fl.out=true)(h:eY X G H0 W H Dn env' fl)(e:Dn'.rt=Dn.rt)(st:Step W H W1 H1):eY X G H0 W1 H1 Dn' env' fl:=by
 cases fl with
 |nx=>cases I
 |bk=>cases I
 |ct=>cases I
 |rt d=>intro W' D v H' s o r;rw[e];exact h W' D v H' (st.trans s) o r
 |rf ds=>intro v vs H' s n l r;rw[e];exact h v vs H' s n l r
 |r2 dss=>intro v ls H' s n;rw[e];exact h v ls H' s n
 |xc c=>exact λW' D H' C z s o=>h W' D H' C z (st.trans s) o |ra k ps=>intro W' D p H' s o r;rw[e];exact h W' D p H' (st.trans s) o r
@[simp] def aO:FS:=λe=>↑(.nx,e)
@[simp] def aE(g h:FS):FS:=λe=>(g e).bind λr=>match r.1 with | .nx=>h r.2 |_=>↑r
@[simp] def aI(i:Nat)(f:FE):FS:=λe=>(f e).map λr=>(.nx,r.2.set i ⇑r.1)
@[simp] def bW(i:Nat)(f:FA):FS:=λe=>(f e).map λr=>(.nx,r.2.set i ↑(.ow r.1))
@[simp] def aJ(f:FE):FS:=λe=>(f e).map λr=>(.rt r.1,r.2)
@[simp] def aZ(c:FT)(g h:FS):FS:=λe=>(c e).bind λr=>if r.1=true then g r.2 else h r.2
@[simp] def j4(f:FE):FS:=λe=>(f e).map λr=>(.nx,r.2)
@[simp] def tS:FS:=λ_=>none
def dE(i:Nat)(g:FS):k7->DE0->Option (Fl×DE0)
 | [],e=>↑(.nx,e) |d::r,e=>(g (e.set i ⇑d)).bind λq=>match q.1 with | .nx=>dE i g r q.2 | .ct=>dE i g r q.2 | .bk=>↑(.nx,q.2) | .rt d=>↑(.rt d,q.2) | .rf ds=>↑(.rf ds,q.2) | .r2 ds=>↑(.r2 ds,q.2) | .xc c=>↑(.xc c,q.2) | .ra k ps=>↑(.ra k ps,q.2)
@[simp] def cP(i:Nat)(fi:FI)(g:FS):FS:=λe=>(fi e).bind λr=>dE i g r.1 r.2
def qt(c:FT)(g:FS):Nat->DE0->Option (Fl×DE0)
 |0,_=>none |n+1,e=>(c e).bind λr=>if r.1=true then(g r.2).bind λq=>match q.1 with | .nx=>qt c g n q.2 | .ct=>qt c g n q.2 | .bk=>↑(.nx,q.2) | .rt d=>↑(.rt d,q.2) | .rf ds=>↑(.rf ds,q.2) | .r2 ds=>↑(.r2 ds,q.2) | .xc c=>↑(.xc c,q.2) | .ra k ps=>↑(.ra k ps,q.2) else ↑(.nx,r.2)
def ju  : gE X G H0 [] aO:=⟨Ix.imp λDn σ H D=>by
 obtain⟨W,env,fl,env',ok,q,k⟩:=D;cases q;exact k W σ H Step.refl ok⟩
variable{s:Stmt}{ss:List Stmt}{u v:FS}
def dz(h1:eZ X G H0 s u)(h2:gE X G H0 ss v):gE X G H0 (s::ss) (aE u v):=⟨(Iy h1.out h2.out).imp λDn σ H U=>by
 obtain⟨W,env,fl,env',ok,q,k⟩:=U;cases e1:u env with
 |none=>simp[e1] at q |some r =>
   obtain⟨D,env1⟩:=r;refine⟨W,env,D,env1,ok,e1,?_⟩;cases D with
   |nx =>
     have q:v env1=↑(fl,env'):=by simpa[aE,e1] using q
     exact λW1 V H1 Y I=>⟨W1,env1,fl,env',I,q,k.step Y⟩
   |bk =>
     have q:↑(Fl.bk,env1)=↑(fl,env'):=by simpa[aE,e1] using q
     cases q;exact k
   |ct =>
     have q:↑(Fl.ct,env1)=↑(fl,env'):=by simpa[aE,e1] using q
     cases q;exact k
   |rt d =>
     have q:↑(Fl.rt d,env1)=↑(fl,env'):=by simpa[aE,e1] using q
     cases q;exact k
   |rf d =>
     have q:↑(Fl.rf d,env1)=↑(fl,env'):=by simpa[aE,e1] using q
     cases q;exact k
   |r2 d =>
     have q:↑(Fl.r2 d,env1)=↑(fl,env'):=by simpa[aE,e1] using q
     cases q;exact k
   |xc d =>
     have q:↑(Fl.xc d,env1)=↑(fl,env'):=by simpa[aE,e1] using q
     cases q;exact k
   |ra d d' =>
     have q:↑(Fl.ra d d',env1)=↑(fl,env'):=by simpa[aE,e1] using q
     cases q;exact k⟩
def eh(h:eZ X G H0 s u):gE X G H0 [s] u:=⟨Iz h.out⟩
variable{f:FE}{pos p':Pos}{x:Str}{i:Nat}
def KP(V:X.N.Nodup)(hi:‹X.N[i]?=↑x›)(Y:aT X G H0 e f)(ps:PS X (.Assign [.Name x p'] e pos) (fI (tD X.K G H0 f) (p8 i))):eZ X G H0 (.Assign [.Name x p'] e pos) (aI i f):=⟨ps.imp λDn σ H I=>by
 obtain⟨W,env,fl,env',ok,q,k⟩:=I;cases e1:f env with
 |none=>simp[e1] at q |some r =>
   have q:↑(Fl.nx,r.2.set i ↑(Sl.sh r.1))=↑(fl,env'):=by simpa[aI,e1] using q
   cases q;exact⟨W,env,_,_,ok,e1,λW1 v1 H1 U D p1=>k W1 _ H1 U (D.set p1)⟩⟩
variable{F:FA}
def nj(ps:PS X (.Assign [.Name x p'] e pos) (fI (iA X.K G H0 F) (p8 i))):eZ X G H0 (.Assign [.Name x p'] e pos) (bW i F):=⟨ps.imp λDn σ H U=>by
 obtain⟨W,env,fl,env',ok,q,k⟩:=U;cases e1:F env with
 |none=>simp[e1] at q |some r =>
   have q:↑(Fl.nx,r.2.set i ↑(Sl.ow r.1))=↑(fl,env'):=by simpa[bW,e1] using q
   cases q;exact⟨W,env,_,_,ok,e1,λW1 l vs H1 V D I Y Z a=>k (cF W1 l) _ H1 V (I.setO (.inr rfl) Z a (D.noOwn Y))⟩⟩
def ig(I:aT X G H0 e f):eZ X G H0 (.Return ↑e pos) (aJ f):=⟨(sQ I.out).imp λDn σ H U=>by
 obtain⟨W,env,fl,env',ok,q,k⟩:=U;cases e1:f env with
 |none=>simp[e1] at q |some r =>
   have q:↑(Fl.rt r.1,r.2)=↑(fl,env'):=by simpa[aJ,e1] using q
   cases q;exact⟨W,env,_,_,ok,e1,λW1 v1 H1 V D p1=>k W1 σ v1 H1 V D p1⟩⟩
@[simp] def nQ(i:Nat):FS:=λe=>match e[i]? with |some ↑(.ow ds)=>↑(.rf ds,e) |_=>none
variable{Nn Cn:h6}
def zT(an:bR Nn Cn X)(D:‹Nn[i]?=↑x›):eZ X G H0 (.Return ↑(.Name x p') pos) (nQ i):=⟨(sQ ((an.a D).pe)).imp λDn σ H U=>by
 obtain⟨W,env,fl,env',ok,q,k⟩:=U;unfold nQ at q;split at q
 ·rename_i ds V
  cases q;obtain⟨v,Y,l,vs,rfl,I,Z,r⟩:=ok.slot i _ V;exact⟨_,Y,k l vs H ok.stay (ok.wl l I).1 Z (r.mono (λ_ _ h=>h) λa us o h=>⟨⟨o.1,λz=>o.2 (z ▸ I)⟩,h⟩)⟩
 ·cases q⟩
variable{c:Expr}{p:FT}
def jm{I U:List Stmt}(Y:gM X G H0 c p)(Z:gE X G H0 I u)(a:gE X G H0 U v):eZ X G H0 (.If c I U pos) (aZ p u v):=⟨(IB Y.out Z.out a.out).imp λDn σ H b=>by
 obtain⟨W,env,fl,env',ok,q,k⟩:=b;cases e1:p env with
 |none=>simp[e1] at q |some r =>
   obtain⟨t,env1⟩:=r;refine⟨W,env,t,env1,ok,e1,λW1 H1 V D=>?_⟩;cases t with
   |true=>rw[aq rfl];exact⟨W1,env1,fl,env',D,by simpa[aZ,e1] using q,k.step V⟩ |false=>rw[b7 dq];exact⟨W1,env1,fl,env',D,by simpa[aZ,e1] using q,k.step V⟩⟩
def zU  : eZ X G H0 s tS:=⟨ID.imp λDn σ H ⟨W,env,fl,env',ok,q,k⟩=>by cases q⟩
def lc(I:aT X G H0 e f)(U:‹swapsWith e none pos.line X.env=pure false›):eZ X G H0 (.Expr e pos) (j4 f):=⟨(CP I.out U).imp λDn σ H V=>by
 obtain⟨W,env,fl,env',ok,q,k⟩:=V;cases e1:f env with
 |none=>simp[e1] at q |some r =>
   have q:↑(Fl.nx,r.2)=↑(fl,env'):=by simpa[j4,e1] using q
   cases q;exact⟨W,env,_,_,ok,e1,λW1 v1 H1 Y D p1=>k W1 σ H1 Y D⟩⟩
structure zV (K:kf) (G:Gd) (J:It) (W:Addr->Prop) (H:Hp) (ds:k7):Prop where
 go:∀W' H' (i:Nat) d,Step W H W' H'->ds[i]?=↑d->J.go i H'/\∀x H'',J.yld i H' x H''->bB H' H''/\a_ K H'' (Ow G W') d x
 stop:∀W' H',Step W H W' H'->J.stop ds.length H'
def Eh(K:kf)(G:Gd)(H0:Hp)(f:FI):TI:=λσ H R=>DP K G H0 f (λW env ds env' =>
 ∀W' J H',Step W H W' H'->Ok K G H0 W' env' σ H'->zV K G J W' H' ds->R J H') σ H
structure kX (X:Cx) (G:Gd) (H0:Hp) (tg:Expr) (e:Expr) (f:FI):Prop where
 out:PI X tg e (Eh X.K G H0 f)
variable{tg a:Expr}
def tN.dj{f:FI}(h:jJ X G H0 tg a f):kX X G H0 tg a f:=⟨h.out.imp λσ H R z=>by
 obtain⟨W,env,ds,env',ok,q,k⟩:=z;exact⟨W,env,ds,env',ok,q,λW' J H' st D w=>k W' J H' st D ⟨λI H2 i d s e=>⟨(w.go I H2 i d s e).1,λx U y=>by
  obtain⟨V,r⟩:=(w.go I H2 i d s e).2 x U y;cases V;exact⟨bB.refl _,r⟩⟩,w.stop⟩⟩⟩
def qE(k:DE0->Option (Fl×DE0))(q:Fl×DE0):Option (Fl×DE0):=match q.1 with | .nx=>k q.2 | .ct=>k q.2 | .bk=>↑(.nx,q.2) | .rt d=>↑(.rt d,q.2) | .rf ds=>↑(.rf ds,q.2) | .r2 ds=>↑(.r2 ds,q.2) | .xc c=>↑(.xc c,q.2) | .ra k ps=>↑(.ra k ps,q.2)
variable{W':Addr->Prop}{H':Hp}{N:h6}
def eY.loop{Y:Fl}{I:DE0}{N:St->Hp->Prop}{kk:DE0->Option (Fl×DE0)}(k:eY X G H0 W H Dn env' fl)(st:Step W H W' H')(Z:qE kk (Y,I)=↑(fl,env'))(a:∀V D H2,Step W' H' V H2->Ok X.K G H0 V I D H2->kk I=↑(fl,env')->N D H2) :
  eY X G H0 W' H' { Dn with nx:=N,ct:=N,bk:=Dn.nx } I Y:=by
 cases Y with
 |nx=>exact λV D H2 s2 U=>a V D H2 s2 U Z |ct=>exact λV D H2 s2 U=>a V D H2 s2 U Z |bk=>cases Z;exact λV D H2 s2 U=>k V D H2 (st.trans s2) U
 |_=>cases Z;exact k.go rfl rfl st
inductive mx (X:Cx) (G:Gd) (H0:Hp) (W1:Addr->Prop) (H1:Hp) (ds:k7) (L:k7->DE0->Option (Fl×DE0)) (r:Option (Fl×DE0)) (n m:Nat) (σ:St) (H:Hp):Prop
 |mk (W:Addr->Prop) (env:DE0) (hm:m=ds.length-n) (hn:n<=ds.length) (st:Step W1 H1 W H) (ok:Ok X.K G H0 W env σ H) (ef:L (ds.drop n) env=r):mx X G H0 W1 H1 ds L r n m σ H
variable{g:FE}{body:List Stmt}{fi:FI}{b:Expr}{q:FT}
def Ei{g:TG}{b:D->DE0->Option DE0}{L:k7->DE0->Option (Fl×DE0)}(hi:kX X G H0 tg a fi)(i:PG X tg g)(E:gE X G H0 body u)(F:∀ {W env env' σ H d x} {Q:St->Hp->Prop},Ok X.K G H0 W env σ H->a_ X.K H (Ow G W) d x->b d env=↑env'->(∀U,Ok X.K G H0 W env' U H->Q U H)->g x σ H Q)(M:∀e,L [] e=↑(.nx,e))(h1:∀d r e,L (d::r) e=(b d e).bind λe'=>(u e').bind λq=>qE (L r) q)(N:PassesOwn (model X.prog X.w) X.A X.env X.xe)(O:X.calm=true)(P:∀x,foldedSetIterable a X.env x=pure x):eZ X G H0 (.For tg a body [] pos) (λe=>(fi e).bind λr=>L r.1 r.2):=⟨(IU N O hi.out i E.out P).imp λDn σ H z=>by
 obtain⟨W,env,fl,env',ok,q,k⟩:=z;obtain⟨⟨ds,env1⟩,R,q⟩:=di.mp q;refine⟨W,env,ds,env1,ok,R,λW1 J H1 t j v=>⟨mx X G H0 W1 H1 ds L ↑(fl,env'),⟨ds.length,W1,env1,rfl,ib _,Step.refl,j,q⟩,λn m U H' z=>?_⟩⟩;obtain⟨W',B,S,T,st,Z,V⟩:=z;subst S;by_cases I:n<ds.length
 ·rw[ij I,h1] at V
  obtain⟨c,e2,V⟩:=di.mp V;obtain⟨⟨l,Y⟩,e3,V⟩:=di.mp V;obtain⟨i,hy⟩:=v.go W' H' n ds[n] st (am I);refine .inr ⟨i,λf H2=>∃C,C<ds.length-n/\mx X G H0 W1 H1 ds L ↑(fl,env') (n+1) C f H2,λ_ _ h=>h,λx o y=>?_⟩;obtain⟨sm,rx⟩:=hy x o y;have sn:=st.trans (Step.same sm);exact F (Z.same sm) rx e2 λaa p=>⟨W',c,l,Y,p,e3,k.loop (t.trans sn) V λW2 f H2 s2 s e=>⟨_,qd _ _ I,W2,Y,rfl,I,sn.trans s2,s,e⟩⟩
 ·cases l7 T (js I)
  rw[vq,M] at V;cases V;exact .inl ⟨v.stop W' H' st,k W' U H' (t.trans st) Z⟩⟩
variable{px:Pos}
def om{tg:Str}(hi:jJ X G H0 (.Name tg px) a fi)(D:PG X (.Name tg px) (p8 i))(I:gE X G H0 body u)(U:PassesOwn (model X.prog X.w) X.A X.env X.xe:=by passes_own)(V:‹X.calm=true›)(Y:∀x,foldedSetIterable a X.env x=pure x:=by intro _;rfl):eZ X G H0 (.For (.Name tg px) a body [] pos) (cP i fi u) :=
 Ei (b:=λd e=>↑(e.set i ⇑d)) (L:=dE i u) hi.dj D I (λok r e k=>by cases e;exact k _ (ok.set r)) (λ_=>rfl) (λ_ _ _=>rfl) U V Y
inductive m1 (X:Cx) (G:Gd) (H0:Hp) (W1:Addr->Prop) (H1:Hp) (L:Nat->DE0->Option (Fl×DE0)) (r:Option (Fl×DE0)) (m:Nat) (σ:St) (H:Hp):Prop
 |mk (W:Addr->Prop) (env:DE0) (st:Step W1 H1 W H) (ok:Ok X.K G H0 W env σ H) (ef:L m env=r):m1 X G H0 W1 H1 L r m σ H
variable{n:Nat}
def zW(l:gM X G H0 c p)(o:gE X G H0 body u)(r:PassesOwn (model X.prog X.w) X.A X.env X.xe:=by passes_own):eZ X G H0 (.While c body [] pos) (qt p u n):=⟨(IJ r l.out o.out).imp λDn σ H z=>by
 obtain⟨W,env,fl,env',ok,q,k⟩:=z;refine⟨m1 X G H0 W H (qt p u) ↑(fl,env'),⟨n,W,env,Step.refl,ok,q⟩,λm a H' z=>?_⟩;obtain⟨W',V,st,b,U⟩:=z;cases m with
 |zero=>cases U
 |succ m =>
   obtain⟨⟨t,D⟩,s,U⟩:=di.mp U;refine⟨W',V,t,D,b,s,λg H2 s2 Y=>?_⟩;cases t with
   |false =>
     cases U;exact k g a H2 (st.trans s2) Y
   |true =>
     obtain⟨⟨d,I⟩,v,U⟩:=di.mp U;exact⟨λZ i=>∃j,j<m+1/\m1 X G H0 W H (qt p u) ↑(fl,env') j Z i,λ_ _ h=>h,g,D,d,I,Y,v,k.loop (kk:=qt p u m) (st.trans s2) U λx Z i y f e=>⟨m,gg _,x,I,(st.trans s2).trans y,f,e⟩⟩⟩
def m2(h:n<2 ^ 20):n<sizeLine:=b6 h (by rw[i4];decide)
@[simp] def z8(d:D)(e:DE0)(i:Nat):Option (D×DE0):=match e[i]? with
 |some ↑(.ow ds)=>if bS (ds.length+1) then ↑(.non,e.set i ↑(.ow (ds++[d]))) else none
 |_=>none
@[simp] def pd(i:Nat)(f:FE):FE:=λe=>match e[i]? with
 |some ↑(.ow _)=>(f e).bind λr=>z8 r.1 r.2 i
 |_=>none
variable{p1:Pos}
def t5(m:aT X G H0 a f)(an:bR Nn Cn X)(Z:‹Nn[i]?=↑x›)(D:‹attributeBase (.Name x p') "append" X.env (eval (.Name x p') X.env)=eval (.Name x p') X.env›)(U:((backTo pos (starEach [a] X.env)).all (λx=>!x.1) && (backToKw pos (keywordEach [] X.env)).all (λx=>x.1.isSome)
   && decide ([a].length+([]:List Keyword).length+(if ([]:List Keyword).isEmpty then 0 else 1)<30))=true:=by rfl)(I:‹(p1.endLine==pos.line)=true›)(g:‹starEach [a] X.env=(false,eval a X.env)::starEach [] X.env›) :
  aT X G H0 (.Call (.Attribute (.Name x p') "append" p1) [a] [] pos) (pd i f):=⟨(pX h9 PySem.F.slot_list_append PySem.F.type_list_append D9 ((an.a Z).pe) (qu m.out uz g) D U I g rfl).imp λσ H Q n=>by
 obtain⟨W,env,d,env',ok,q,k⟩:=n;unfold pd at q;split at q;case h_2=>cases q
 rename_i o b;obtain⟨v,c,l,p,rfl,s,e,_⟩:=ok.slot i _ b;cases e1:f env with
 |none=>rw[e1] at q;cases q
 |some r =>
   obtain⟨t,env1⟩:=r;rw[e1,ac] at q;unfold z8 at q;split at q;case h_2=>cases q
   rename_i ds h;split at q;case isFalse=>cases q
   rename_i V;cases q;refine⟨_,c,.inl ⟨rfl,_,.inl (.inl e)⟩,W,env,t,env1,ok,e1,λW1 v1 H1 u Y w=>?_⟩;obtain⟨C,j,l',vs,y,E,z,r⟩:=Y.slot i _ h;rw[c] at j;cases j;cases y;obtain⟨A,B⟩:=Y.turn h c (r.append (.cons w .nil));exact⟨l,vs,v1,rfl,rfl,z,by rw[<-r.length];exact m2 (uj V),k W1 _ _ (u.trans B) A .non⟩⟩
@[simp] def m3(i:Nat):FE:=λe=>match e[i]? with
 |some ↑(.ow ds)=>(ds[ds.length-1]?).map λd=>(d,e.set i ↑(.ow ds.dropLast))
 |_=>none
def KQ(an:bR Nn Cn X)(U:‹Nn[i]?=↑x›)(D:‹attributeBase (.Name x p') "pop" X.env (eval (.Name x p') X.env)=eval (.Name x p') X.env›)(I:‹(p1.endLine==pos.line)=true›) :
  aT X G H0 (.Call (.Attribute (.Name x p') "pop" p1) [] [] pos) (m3 i):=⟨(D5 h9 pk pj DA ((an.a U).pe) D I).imp λσ H Q c=>by
 obtain⟨W,env,d,env',ok,q,k⟩:=c;unfold m3 at q;split at q;case h_2=>cases q
 rename_i ds V;obtain⟨v,Y,l,vs,rfl,h,Z,r⟩:=ok.slot i _ V;cases e1:ds[ds.length-1]? with
 |none=>rw[e1] at q;cases q
 |some d' =>
   rw[e1] at q;cases q;obtain⟨u,e,f⟩:=r.get e1;obtain⟨g,b⟩:=ok.turn V Y r.dropLast;exact⟨_,Y,.inl ⟨rfl,_,.inl (.inl Z)⟩,l,vs,u,rfl,rfl,Z,by rw[<-r.length];exact e,k W _ _ b g (ok.rep b f)⟩⟩
def zX(k:D)(e:DE0)(i:Nat):Option (D×DE0):=match k,e[i]? with
 | .int k,↑↑(.ow ds)=>if bS ds.length then(dV ds.length k).bind λj=>(ds[j]?).map λd=>(d,e.set i ↑(.ow (ds.eraseIdx j))) else none
 |_,_=>none
def tT(i:Nat)(f:FE):FE:=λe=>match e[i]? with
 |some ↑(.ow _)=>(f e).bind λr=>zX r.1 r.2 i
 |_=>none
theorem KR(o:aT X G H0 a f)(an:bR Nn Cn X)(Z:‹Nn[i]?=↑x›)(I:‹attributeBase (.Name x p') "pop" X.env (eval (.Name x p') X.env)=eval (.Name x p') X.env›)(Y:((backTo pos (starEach [a] X.env)).all (λx=>!x.1) && (backToKw pos (keywordEach [] X.env)).all (λx=>x.1.isSome)
   && decide ([a].length+([]:List Keyword).length+(if ([]:List Keyword).isEmpty then 0 else 1)<30))=true:=by rfl)(U:‹(p1.endLine==pos.line)=true›)(g:‹starEach [a] X.env=(false,eval a X.env)::starEach [] X.env›) :
  aT X G H0 (.Call (.Attribute (.Name x p') "pop" p1) [a] [] pos) (tT i f):=⟨(pX h9 pk pj JS ((an.a Z).pe) (qu o.out uz g) I Y U g rfl).imp λσ H Q p=>by
 obtain⟨W,env,d,env',ok,q,k⟩:=p;unfold tT at q;split at q;case h_2=>cases q
 rename_i s b;obtain⟨v,c,l,t,rfl,w,e,_⟩:=ok.slot i _ b;cases e1:f env with
 |none=>rw[e1] at q;cases q
 |some r =>
   obtain⟨K,env1⟩:=r;rw[e1,ac] at q;unfold zX at q;dsimp only at q;split at q;case h_2=>cases q
   rename_i kk ds h;split at q;case isFalse=>cases q
   rename_i D;cases e2:dV ds.length kk with
   |none=>rw[e2] at q;cases q
   |some j =>
     rw[e2,ac] at q;cases e3:ds[j]? with
     |none=>rw[e3] at q;cases q
     |some d' =>
       rw[e3] at q;cases q;obtain⟨y,L,M,N⟩:=tp e2;refine⟨_,c,.inl ⟨rfl,_,.inl (.inl e)⟩,W,env,_,env1,ok,e1,λW1 v1 H1 z V A=>?_⟩;obtain⟨O,m,l',vs,B,P,C,r⟩:=V.slot i _ h;rw[c] at m;cases m;cases B;obtain⟨u,E,F⟩:=r.get e3;obtain⟨J,n⟩:=V.turn h c (r.eraseIdx j);exact⟨l,vs,kk,j,u,rfl,by rw[A.int_],C,by have:ds.length<=2 ^ 20:=D;lia,by have:ds.length<=2 ^ 20:=D;lia,by rw[<-r.length];exact y,E,k W1 _ _ (z.trans n) J (V.rep n F)⟩⟩
@[simp] def nR(d k:D)(e:DE0)(i:Nat):Option (Fl×DE0):=match k,e[i]? with
 | .int k,↑↑(.ow ds)=>(dV ds.length k).map λj=>(.nx,e.set i ↑(.ow (ds.set j d)))
 |_,_=>none
@[simp] def vz(i:Nat)(D I:FE):FS:=λe=>(I e).bind λr=>match r.2[i]? with
 |some ↑(.ow _)=>(D r.2).bind λq=>nR r.1 q.1 q.2 i
 |_=>none
def qF(n:aT X G H0 b g)(o:aT X G H0 e f)(an:bR Nn Cn X)(Y:‹Nn[i]?=↑x›)(p:‹swapsWithSole [.Subscript (.Name x p') b p1] e pos.line X.env=pure false›)(s:‹swappedStores [.Subscript (.Name x p') b p1] e X.env=pure none›)(h1:‹(assignEach [.Subscript (.Name x p') b p1] X.env).map (·.2)=[assign (.Subscript (.Name x p') b p1) X.env]›)(I:∀v,assign (.Subscript (.Name x p') b p1) X.env v=(do
   let ov <-holding [v] (eval (.Name x p') X.env);let iv <-holding [v,ov] (eval b X.env)
   standAt p1
   holding [v,ov,iv] (setItem ov iv v)
   release [v,ov,iv] []):=by intro _;rfl) :
  eZ X G H0 (.Assign [.Subscript (.Name x p') b p1] e pos) (vz i g f):=⟨(pJ o.out (sS ((an.a Y).pe) n.out nH I) p s h1).imp λDn σ H t=>by
 obtain⟨W,env,fl,env',ok,q,k⟩:=t;cases e1:f env with
 |none=>simp[e1] at q |some r =>
   obtain⟨u,env1⟩:=r;simp only[vz,e1,ac] at q;split at q;case h_2=>cases q
   rename_i w Z;cases e2:g env1 with
   |none=>rw[e2] at q;cases q
   |some c =>
     obtain⟨M,U⟩:=c;rw[e2,ac] at q;unfold nR at q;dsimp only at q;split at q;case h_2=>cases q
     rename_i kk ds h;cases e3:dV ds.length kk with
     |none=>rw[e3] at q;cases q
     |some j =>
       rw[e3] at q;cases q;refine⟨W,env,u,env1,ok,e1,λW1 v1 H1 y D z=>?_⟩;obtain⟨v,d,l,A,rfl,B,C,_⟩:=D.slot i _ Z;refine⟨_,d,W1,env1,_,U,D,e2,λE v2 H2 s2 V c=>?_⟩;obtain⟨N,m,l',vs,F,O,J,r⟩:=V.slot i _ h;rw[d] at m;cases m;cases F;obtain⟨K,L⟩:=V.turn h d (aK.set (D.rep s2 z) j r);exact⟨l,vs,kk,j,rfl,c.int_,J,by rw[<-r.length];exact e3,k E _ _ ((y.trans s2).trans L) K⟩⟩
def lf(n:Nat)(ds:k7):DE0:=ds.map (λd=>↑(Sl.sh d))++List.replicate (n-ds.length) none
def aR(n ar:Nat)(g:FS):k7->k8:=λds=>if ds.length=ar then(match g (lf n ds) with |some (.rt d,_)=>↑d |some (.nx,_)=>some .non |_=>none) else none
def hB(n ar:Nat)(g:FS):k7->Option k7:=λds=>if ds.length=ar then(match g (lf n ds) with |some (.rf d,_)=>↑d |_=>none) else none
def tU:∀ {n:Nat} {ds:k7} {i:Nat} {s:Sl},(lf n ds)[i]?=↑↑s->∃d,ds[i]?=↑d/\s=.sh d:=λ{n ds i s} h=>by
 unfold lf at h;by_cases hi:i<ds.length
 ·rw[bg (by simpa using hi),b8] at h
  cases e:ds[i]? with
  |none=>rw[e] at h;cases h
  |some d=>rw[e] at h;cases h;exact⟨d,rfl,rfl⟩
 ·rw[dc (by simpa using hi),List.getElem?_replicate] at h
  split at h <;> cases h
variable{O:Addr->Prop}{ds:k7}{vs:k6}{K:kf}
def ze(r:aK K H O ds vs):Ok K (gd λa=>O a\/H a=none) H dA (lf N.length ds) (start N vs) H:=by
 refine⟨bB.refl _,λa z=>.inr z,λl z=>z.elim,λi s e=>?_,λi j V s2 v1 v2 a D _ _ _ o _=>?_,?_⟩
 ·obtain⟨d,D,rfl⟩:=tU e
  obtain⟨v,I,U⟩:=r.get D;refine⟨v,?_,U.mono (λ_ _ h=>h) λa us o h=>⟨⟨.inl o,λz=>z⟩,h⟩⟩;unfold start;rw[bg (by simpa using(aj.mp I).1),b8,I];rfl
 ·obtain⟨d,_,z⟩:=tU D
  subst z;exact o.elim
 ·unfold lf start
  rw[ak,ak,ah,ah,f7,f7,r.length]
variable{f:Addr}{CX:iP}{qual:Str}{st:Stmt}{fd:FuncData}{ps:h6}{k ar:Nat}{P:Program}{w:World}{mg:Str->h8}{base:Heap}
theorem qG{g:FS}(F:h_ K x qual st f fd)(S:we N ps (i9 st))(Y:n=N.length)(Z:ar=ps.length)(D:∀(cdv:Value) (A:Around) (outer:ip) (s:Shared) (H:Hp) (E:XK) (G:Gd) (H0:Hp),bC k (A.deeper (envOfC qual (i9 st) s.heap.objs.size f cdv)) ->
   gE (cI CX P w K mg base N qual (i9 st) f cdv A outer s H E).nox G H0 (pf st) g):cK P w K mg base CX (k+1) f fd ps (cH K (aR n ar g)):=by
 subst Y Z;refine F.okC S (λvs H Q E h=>?_) (λcdv A outer s H vs Q E b h=>?_)
 ·obtain⟨O,ds,d,r,e,_⟩:=h
  rw[<-r.length];unfold aR at e;split at e
  ·assumption
  ·cases e
 ·obtain⟨O,ds,d,r,e,k⟩:=h
  refine⟨_,(D cdv A outer s H E (gd λa=>O a\/H a=none) H b).out,?_⟩;unfold aR at e;split at e;case isFalse=>cases e
  split at e
  ·rename_i d' env' U
   cases e;exact⟨dA,_,_,env',ze r,U,λW' V v H' st I c=>k v H' I.stay (c.mono (λ_ _ h=>h) λa us o h=>⟨o.1,h⟩)⟩
  ·rename_i env' U
   cases e;exact⟨dA,_,_,env',ze r,U,λW' V H' st I=>k .non H' I.stay .non⟩
  ·cases e
theorem zY{g:FS}(F:h_ K x qual st f fd)(S:we N ps (i9 st))(I:n=N.length)(U:ar=ps.length)(D:∀(cdv:Value) (A:Around) (outer:ip) (s:Shared) (H:Hp) (E:XK) (G:Gd) (H0:Hp),bC k (A.deeper (envOfC qual (i9 st) s.heap.objs.size f cdv)) ->
   gE (cI CX P w K mg base N qual (i9 st) f cdv A outer s H E).nox G H0 (pf st) g):cK P w K mg base CX (k+1) f fd ps (lH K (hB n ar g)):=by
 subst I U;refine F.okC S (λvs H Q E h=>?_) (λcdv A outer s H vs Q E V h=>?_)
 ·obtain⟨O,ds,d,r,e,_⟩:=h
  rw[<-r.length];unfold hB at e;split at e
  ·assumption
  ·cases e
 ·obtain⟨O,ds,d,r,e,k⟩:=h
  refine⟨_,(D cdv A outer s H E (gd λa=>O a\/H a=none) H V).out,?_⟩;unfold hB at e;split at e;case isFalse=>cases e
  split at e
  ·rename_i d' env' Y
   cases e;exact⟨dA,_,_,env',ze r,Y,λl vs' H' sm Z b c=>k l vs' H' sm Z b c⟩
  ·cases e
def tW(K:kf):Sp:=λvs H Q _=>∃(a:Addr) (D:ik),vs=[.ref a]/\dI K H a (D.map V.int)/\D.length<=63/\∀H',Q (.bl true) H'
variable{m:k7->k8}
theorem KS(F:cK P w K mg base CX k f fd ps (cH K m))(h:∀I:ik,I.length<=63->m [.lst (I.map D.int)]=↑(.bl true)) :
  cK P w K mg base CX k f fd ps (tW K):=F.imp λvs H Q E U=>by
 obtain⟨a,I,e,V,Y,q⟩:=U;subst e;exact⟨λ_=>True,[.lst (I.map D.int)],.bl true,.cons (V.elim (λz=>.lst trivial z (zL I)) λz=>.klst z (zL I)) .nil,h I Y,λv H' _ r=>by rw[r.bl_];exact q H'⟩
def zZ:∀σ H Q,tD X.K G H0 (aL F) σ H Q->iA X.K G H0 F σ H Q:=λσ H Q Y=>by
 obtain⟨W,env,d,env',ok,q,k⟩:=Y;cases e1:F env with
 |none=>simp[e1] at q |some r =>
   have q:↑(D.lst r.1,r.2)=↑(d,env'):=by simpa[aL,e1] using q
   cases q;refine⟨W,env,_,_,ok,e1,λW1 l vs H1 V I U Z b c=>k W1 _ H1 ⟨V.keep,λa z=>V.ws a (.inl z)⟩ I (.lst ⟨I.good l (U.wl l (.inr rfl)).1,Z⟩ (.inl b) (c.mono (λ_ _ h=>h) λa us o h=>⟨⟨o.1,λz=>o.2 (.inl z)⟩,h⟩))⟩
variable{f:FE}
def gw(I:eN Nn X)(U:aT X G H0 e f)(D:‹Nn[i]?=↑x›)(V:‹swapsWith e ↑(.Name x p') pos.line X.env=pure false›):eZ X G H0 (.Assign [.Name x p'] e pos) (aI i f):=KP (I.t D).nd (I.t D).n U (xW (I.t D).nd (I.t D).n (I.t D).l U.out V (I.t D).f)
def tX(ps:PS X (.Assign [.Name x p'] e pos) (fI (iA X.K G H0 F) (p8 i))):eZ X G H0 (.Assign [.Name x p'] e pos) (aI i (aL F)):=⟨(PS.imp ps (t':=fI (tD X.K G H0 (aL F)) (p8 i)) λDn σ H h=>zZ σ H _ h).imp λDn σ H I=>by
 obtain⟨W,env,fl,env',ok,q,k⟩:=I;cases e1:aL F env with
 |none=>simp only[aI,e1,oy] at q;cases q
 |some r =>
   have q:↑(Fl.nx,r.2.set i ↑(Sl.sh r.1))=↑(fl,env'):=by simpa only[aI,e1,ai] using q
   cases q;exact⟨W,env,_,_,ok,e1,λW1 v1 H1 U D p1=>k W1 _ H1 U (D.set p1)⟩⟩
variable{y:Str}{ix:ic}{sc:Scope}{py spos:Pos}{te:FE}
def mB(an:bR Nn Cn X)(V:eN Nn X)(hi:jJ X G H0 (.Name x px) a fi)(Y:∀cl C s₂ H₂ fp G H0,bR (x::(aU Nn ix)) (aU Nn ix) (lr X x (aU Nn ix) sc cl C s₂ H₂ fp)->aT (lr X x (aU Nn ix) sc cl C s₂ H₂ fp) G H0 e te)(U:vg Nn Cn ix x sc=true:=by decide +kernel)(b:‹X.calm=true›)(I:‹Nn[i]?=↑y›)(Z:‹swapsWith (.ListComp e [⟨.Name x px,a,[],0⟩] sc pos) ↑(.Name y py) spos.line X.env=pure true›)(c:∀v,foldedSetIterable a X.env v=pure v:=by intro _;rfl) :
  PS X (.Assign [.Name y py] (.ListComp e [⟨.Name x px,a,[],0⟩] sc pos) spos) (fI (iA X.K G H0 (kj fi ix cA te)) (p8 i)) :=
 (pZ (zb an U) (λ_ _ _ _ _ _ _ _ _=>b) (V.t I).nd (V.t I).n (V.t I).l hi.out (λcl C s₂ H₂ fp _=>nP (X:=X) rfl) (λcl C s₂ H₂ fp _=>gC (X:=X) rfl (λG H0=>Y cl C s₂ H₂ fp G H0 (wg U))) Z (V.t I).f c).imp λD σ H h=>tQ σ H _ h
variable{tt:FT}{cd:Expr}
def KU{Cm:Cx->Prop}(g:∀cl C s₂ H₂ fp pins σ,Inv X pins σ H₂ s₂->(∀b∈fp,d_ X pins H₂ b)->Cm (lr X x (aU Nn ix) sc cl C s₂ H₂ fp))(an:bR Nn Cn X)(V:eN Nn X)(hi:tN Cm X G H0 (.Name x px) a fi)(Y:∀cl C s₂ H₂ fp G H0,Cm (lr X x (aU Nn ix) sc cl C s₂ H₂ fp)->bR (x::(aU Nn ix)) (aU Nn ix) (lr X x (aU Nn ix) sc cl C s₂ H₂ fp)->gM (lr X x (aU Nn ix) sc cl C s₂ H₂ fp) G H0 cd tt)(Z:∀cl C s₂ H₂ fp G H0,Cm (lr X x (aU Nn ix) sc cl C s₂ H₂ fp)->bR (x::(aU Nn ix)) (aU Nn ix) (lr X x (aU Nn ix) sc cl C s₂ H₂ fp)->aT (lr X x (aU Nn ix) sc cl C s₂ H₂ fp) G H0 e te)(U:vg Nn Cn ix x sc=true:=by decide +kernel)(I:‹Nn[i]?=↑y›)(c:‹swapsWith (.ListComp e [⟨.Name x px,a,[cd],0⟩] sc pos) ↑(.Name y py) spos.line X.env=pure true›)(j:∀v,foldedSetIterable a X.env v=pure v:=by intro _;rfl) :
  PS X (.Assign [.Name y py] (.ListComp e [⟨.Name x px,a,[cd],0⟩] sc pos) spos) (fI (iA X.K G H0 (kj fi ix tt te)) (p8 i)) :=
 (pZ (zb an U) g (V.t I).nd (V.t I).n (V.t I).l hi.out (λcl C s₂ H₂ fp d=>mv (X:=X) rfl (λG H0=>Y cl C s₂ H₂ fp G H0 d (wg U))) (λcl C s₂ H₂ fp d=>gC (X:=X) rfl (λG H0=>Z cl C s₂ H₂ fp G H0 d (wg U))) c (V.t I).f j).imp λD σ H h=>tQ σ H _ h
abbrev qH:=DE0->Option (List k7×DE0)
def kY(K:kf)(G:Gd)(H0:Hp)(f:qH):TE:=λσ H Q=>DP K G H0 f (λW env dss env' =>
 ∀W' l H',Step W H W' H'->Ok K G H0 W' env' σ H'->dW K G W' H' (.o2 dss) (.ref l) ->
  (∀(j:Nat) (s:Sl) (v:V) (a:Addr),env'[j]?=↑↑s->σ[j]?=↑↑v->bL H' (.o2 dss) (.ref l) a->¬bL H' s v a)->Q (.ref l) H') σ H
structure KW (X:Cx) (G:Gd) (H0:Hp) (e:Expr) (f:qH):Prop where
 out:PE X e (kY X.K G H0 f)
@[simp] def qI(i:Nat)(f:qH):FS:=λe=>(f e).map λr=>(.nx,r.2.set i ↑(.o2 r.1))
def KY{D:qH}(ps:PS X (.Assign [.Name x p'] e pos) (fI (kY X.K G H0 D) (p8 i))):eZ X G H0 (.Assign [.Name x p'] e pos) (qI i D):=⟨ps.imp λDn σ H U=>by
 obtain⟨W,env,fl,env',ok,q,k⟩:=U;cases e1:D env with
 |none=>simp[e1] at q |some r =>
   have q:↑(Fl.nx,r.2.set i ↑(Sl.o2 r.1))=↑(fl,env'):=by simpa[qI,e1] using q
   cases q;exact⟨W,env,_,_,ok,e1,λW1 l H1 V I h1 Y=>k W1 _ H1 V (I.put h1 Y)⟩⟩
def qJ(te:FA)(base:DE0):k7->Option (List k7)
 | []=>↑[] |d::r=>(te (⇑d::base)).bind λv=>(qJ te base r).map (v.1::·)
def qK(fi:FI)(ix:ic)(te:FA):qH:=λe=>(fi e).bind λr=>if bS r.1.length then(qJ te (ix.map λj=>gN (r.2.getD j none)) r.1).map λds=>(ds,r.2) else none
def qL(K:kf)(f:FA):TE:=λσ H Q=>∃G H0,iA K G H0 f σ H Q
variable{te:FA}
def KZ{X':Cx}(D:X'.K=X.K)(h:∀G H0,gI X' G H0 e te):PE X' e (qL X.K te):=λpins s σ H Q I ⟨G,H0,q⟩=>(h G H0).out pins s σ H Q I (by rw[D];exact q)
inductive Ej (X:Cx) (G:Gd) (H0:Hp) (env:DE0) (σ:St) (W1:Addr->Prop) (H1:Hp) (ds:k7) (d:List k7) (f:k7->Option (List k7)) (i m:Nat) (H':Hp) (ys:k6):Prop
 |mk (Wi:Addr->Prop) (rest done:List k7) (ls:ia) (hm:m=ds.length-i) (hi:i<=ds.length) (sm:bB H1 H') (st:Step W1 H1 Wi H') (ok:Ok X.K G H0 Wi env σ H') (hy:ys=ls.map V.ref) (inn:yZ X.K G Wi H' done ls) (nd:ls.Nodup) (fr:∀a∈ls,H1 a=none) (hd:done.length<=i) (ec:f (ds.drop i)=↑rest) (hz:d=done++rest):Ej X G H0 env σ W1 H1 ds d f i m H' ys
theorem K_:∀σ H Q,kY X.K G H0 (qK fi ix te) σ H Q->yw (zN X.K G H0 fi) ix (g_ X.K cA) (qL X.K te) σ H Q:=λσ H Q z=>by
 obtain⟨W,env,d,env',ok,q,k⟩:=z;obtain⟨⟨ds,env1⟩,e1,q⟩:=di.mp q;by_cases P:bS ds.length;case neg=>cases (b7 P).symm.trans q
 obtain⟨an,e2,q⟩:=gf.mp ((aq P).symm.trans q);cases q;refine⟨W,env,ds,_,ok,e1,λW1 J H1 s1 n wk=>⟨Ej X G H0 env1 σ W1 H1 ds d (qJ te (ix.map λj=>gN (env1.getD j none))),⟨ds.length,W1,d,[],[],rfl,ib _,bB.refl _,Step.refl,n,rfl,⟨rfl,λj ds a e=>by cases e⟩,List.nodup_nil,(λa h=>by cases h),b9 _,e2,rfl⟩,λi m H' ys z=>?_⟩⟩;obtain⟨B,rest,D,ls,hm,hi,sm,st,Y,hy,Z,nd,fr,hd,A,R⟩:=z;subst hm hy;have I:ls.length=D.length:=Z.1;have C:∀a∈ls,∃vs,H' a=↑(.lst vs):=λa E=>by
  obtain⟨j,S,e⟩:=md E;obtain⟨_,vs,h,_⟩:=Z.2 j (D[j]'(I ▸ S)) a (am _) (e ▸ am S);exact⟨vs,h⟩
 by_cases U:i<ds.length
 ·rw[ij U] at A
  obtain⟨⟨dv,F⟩,e4,A⟩:=di.mp A;obtain⟨p,e5,e6⟩:=gf.mp A;obtain⟨hg,hy⟩:=wk.go B H' i ds[i] st (am U);refine .inr ⟨hg,λx c y=>?_⟩;obtain⟨e,rx⟩:=hy x c y;subst e;refine⟨_,_,dA,_,true,_,Ea (ix:=ix) Y rx,rfl,λW2 H2 s2 aa=>?_⟩;refine⟨_,_,W2,_,dv,F,aa,e4,λW3 l vs H3 s3 ab L nW M rp=>⟨?_,ds.length-(i+1),qd _ _ U,?_⟩⟩
  ·rw[ah,I];exact b6 (tj hd (b6 U P)) tO
  ·have t:bB c H3:=ab.stay
   have f:c l=none:=(L.wl l (.inr rfl)).1;obtain⟨q1,q2,q3,T,q5⟩:=Y.fresh t f M (rp.mono (O':=λa=>(Ow G B a\/c a=none)/\a≠l) (λ_ _ h=>h) λa us o h=>⟨⟨o.1,λz=>o.2 (.inr z)⟩,h⟩);have nl:l∉ls:=λz=>by obtain⟨us,h⟩:=C l z;rw[f] at h;cases h
   refine⟨cF B l,p,D++[dv],ls++[l],rfl,U,sm.trans t,st.trans q5,q3,by simp,⟨by simp[I],λj es a ea g=>?_⟩,?_,λa E=>?_,by rw[ak,ft];lia,e5,by rw[R,<-e6,cx];rfl⟩
   ·by_cases S:j<D.length
    ·rw[bg S] at ea
     rw[bg ∅] at g;obtain⟨w,us,h,r⟩:=Z.2 j es a ea g;exact⟨.inl w,us,t _ _ h,Y.reps q5 r⟩
    ·rw[dc ∅] at ea
     rw[dc ∅,I] at g;have R:j-D.length=0:=by
      have:=(aj.mp ea).1;simp at this;lia
     rw[R] at ea g;simp[Option.some.injEq] at ea g;subst ea g;exact⟨.inr rfl,vs,M,T⟩
   ·rw[m7]
    exact⟨nd,by simp,λa E b hb=>by simp only[d6] at hb;subst hb;intro z;subst z;exact nl E⟩
   ·rcases dy.mp E with z |z
    ·exact fr a z
    ·rw[d6.mp z];exact sm.free f
 ·cases l7 hi (js U)
  rw[vq] at A;cases A;refine .inl ⟨wk.stop B H' st,by rw[ah,I];exact d7 hd (d7 P tO),λl f=>?_⟩;have u:bB H' (aV H' l (.lst (ls.map V.ref))):=lU f;obtain⟨q1,q2,q3,T⟩:=Y.fresh0 (vs:=ls.map V.ref) u f m6;have nl:l∉ls:=λz=>by obtain⟨us,h⟩:=C l z;rw[f] at h;cases h
  have ag:bB H1 (aV H' l (.lst (ls.map V.ref))):=sm.trans u;rw[R,du] at k;refine k (cF B l) l _ ((s1.trans st).trans T) q3 ⟨l,ls,rfl,.inr rfl,m6,ci.mpr ⟨nl,nd⟩,Z.1,λj es a ea g=>?_⟩ λj s v a ej ev o1 o2=>?_
  ·obtain⟨w,us,h,r⟩:=Z.2 j es a ea g
   exact⟨.inl w,us,u _ _ h,Y.reps T r⟩
  ·obtain⟨v',N,hs⟩:=n.slot j s ej
   rw[ev] at N;cases N;have al:bL H1 s v a:=hs.back (λl' _ _ vs q=>ag _ _ q) o2;have wa:W1 a:=hs.owns al;have O:H1 a≠none:=λz=>by obtain⟨_,us,q⟩:=n.wl a wa;rw[z] at q;cases q
   rcases o1 with o1 | ⟨l',ls',z,q,hb⟩
   ·cases o1;exact O (sm.free f)
   ·cases z
    rw[m6] at q;have:=lS (by simpa using q);subst this;exact O (fr a hb)
def La(an:bR Nn Cn X)(V:eN Nn X)(hi:jJ X G H0 (.Name x px) a fi)(Y:∀cl C s₂ H₂ fp G H0,bR (x::(aU Nn ix)) (aU Nn ix) (lr X x (aU Nn ix) sc cl C s₂ H₂ fp)->gI (lr X x (aU Nn ix) sc cl C s₂ H₂ fp) G H0 e te)(U:vg Nn Cn ix x sc=true:=by decide +kernel)(b:‹X.calm=true›)(I:‹Nn[i]?=↑y›)(Z:‹swapsWith (.ListComp e [⟨.Name x px,a,[],0⟩] sc pos) ↑(.Name y py) spos.line X.env=pure true›)(c:∀v,foldedSetIterable a X.env v=pure v:=by intro _;rfl) :
  PS X (.Assign [.Name y py] (.ListComp e [⟨.Name x px,a,[],0⟩] sc pos) spos) (fI (kY X.K G H0 (qK fi ix te)) (p8 i)) :=
 (pZ (zb an U) (λ_ _ _ _ _ _ _ _ _=>b) (V.t I).nd (V.t I).n (V.t I).l hi.out (λcl C s₂ H₂ fp _=>nP (X:=X) rfl) (λcl C s₂ H₂ fp _=>KZ (X:=X) rfl (λG H0=>Y cl C s₂ H₂ fp G H0 (wg U))) Z (V.t I).f c).imp λD σ H h=>K_ σ H _ h
variable{α:Type}{j:Nat}
def Lb{xs:List α}{k:Int}{y:α}(h:dV xs.length k=↑j)(h2:xs[j]?=↑y):bF xs k=↑y:=by
 unfold bF;rw[h];exact h2
variable{v:V}{env:DE0}{σ:St}
def Lc{dss:List k7}{k:Int}(ok:Ok X.K G H0 W env σ H)(Z:env[i]?=↑↑(.o2 dss))(b:σ[i]?=↑↑v)(c:dV dss.length k=↑j)(U:dss[j]?=↑ds) :
  ∃(l:Addr) (ls:ia) (a:Addr) (vs:k6),v=.ref l/\H l=↑(.lst (ls.map V.ref))/\ls[j]?=↑a/\bF (ls.map V.ref) k=↑(.ref a)/\H a=↑(.lst vs)/\aK X.K H (Ow G W) ds vs:=by
 obtain⟨e,Y,l,ls,rfl,f,d,nd,hi⟩:=ok.slot i _ Z;rw[b] at Y;cases Y;have I:j<ls.length:=by rw[hi.1];exact(aj.mp U).1
 obtain⟨_,vs,h,r⟩:=hi.2 j ds ls[j] U (by simp[I]);exact⟨l,ls,ls[j],vs,rfl,d,by simp[I],Lb (j:=j) (by rw[ah,hi.1];exact c) (by simp[I]),h,r⟩
def z_{env:Env}:∀ {names:List (Str×NameKind)} {x:Str},names.lookup x=some .globalImplicit ->
  (names.map λ(n,k)=>if (k==NameKind.free && env.scope.kind==.function && env.kindOf n==some .cell) then(n,NameKind.cell) else(n,k)).lookup x=some .globalImplicit
 | (n,k)::r,x,h=>by
   have D:=@z_ env r x;show List.lookup x ((if (k==NameKind.free && env.scope.kind==.function && env.kindOf n==some .cell)=true then(n,NameKind.cell) else(n,k))::_)=_;cases hx:x==n with
   |true =>
     simp only[d5,hx] at h;cases h;simp[d5,hx]
   |false =>
     simp only[d5,hx] at h;by_cases I:(k==NameKind.free && env.scope.kind==.function && env.kindOf n==some .cell)=true
     ·rw[aq I];simp only[d5,hx];exact D h
     ·rw[b7 I];simp only[d5,hx];exact D h
variable{s:Shared}{N':h6}{cl:List (Str×Addr)}{C:Addr}{fp:ia}
def Aa(h:sc.names.lookup x=some .globalImplicit):Gl (lr X y N' sc cl C s H fp) x:=z_ h
def Ld:Ty "int" "int":=⟨by decide +kernel,by decide +kernel,by decide +kernel,by decide +kernel⟩
def Le:Ty "bool" "bool":=⟨by decide +kernel,by decide +kernel,by decide +kernel,by decide +kernel⟩
def Ab:Ty "str" "str":=⟨by decide +kernel,by decide +kernel,by decide +kernel,by decide +kernel⟩
def Lf:Ty "list" "list":=⟨by decide +kernel,by decide +kernel,by decide +kernel,by decide +kernel⟩
def Ac:Ty "tuple" "tuple":=⟨by decide +kernel,by decide +kernel,by decide +kernel,by decide +kernel⟩
def Lg(l:List α)(k:Nat)(y:α):(l.toArray.extract 0 k).push y++l.toArray.extract k=(l.take k++y::l.drop k).toArray:=by
 simp;exact i6 ⋯
def Lh:V->k6->Hp->VK->Prop:=λx vs H Q=>∃(l:Addr) (xs:k6) (i:Int) (y:V),x=.ref l/\vs=[↥i,y]/\H l=↑(.lst xs)/\0<=i/\i<=xs.length/\i<2 ^ 62/\xs.length<sizeLine/\Q .non (aV H l (.lst (xs.take i.toNat++y::xs.drop i.toNat)))
def aP.ins{xs:k6}{its:h7}{y:V}{u:Value}(r:aP xs its)(D:aP [y] [u])(k:Nat):aP (xs.take k++y::xs.drop k) (its.take k++u::its.drop k):=by
 have:=(r.take k).append (D.append (r.drop k));simpa using this
theorem Li:pY X "list.insert" Lh:=by
 intro pins s σ H x vs v us Q I Z a h;obtain⟨l,xs,i,y,rfl,rfl,V,c,h1,h2,d,q⟩:=h;cases Z;obtain⟨f,Y,rfl,D,U⟩:=a.two;obtain⟨t,rfl⟩:=D;obtain⟨z,its,n,r,g,e⟩:=I.lstM V;refine nr F.slot_list_insert ⟨_,e,rfl⟩ F.entry_list_insert (F.args_list_insert_3 _ _ _) (PySem.AutoSeq1.list_insert_list_int_val_1 l its.toArray n i t Y (by rw[fitsIndex_both (k:=i) ∅ ∅];decide) (by rw[cb];lia)) ⟨e,?_⟩;refine⟨.non,_,I.lset (its':=its.take i.toNat++Y::its.drop i.toNat) V e ?_ (aP.ins r (.cons U .nil) _) ?_,rfl,q⟩
 ·have b:(if i<0 then(i+(its.toArray.size:Int)).toNat else min i.toNat its.toArray.size)=i.toNat:=by
   rw[b7 ∅,cb]
   lia
  rw[b,Lg]
 ·rw[ak,ao,fj,fm]
  lia
def tY(k d:D)(e:DE0)(i:Nat):Option (D×DE0):=match k,e[i]? with
 | .int k,↑↑(.ow ds)=>if 0<=k/\k<=ds.length/\bS (ds.length+1) then ↑(.non,e.set i ↑(.ow (ds.take k.toNat++d::ds.drop k.toNat))) else none
 |_,_=>none
def nS(i:Nat)(f g:FE):FE:=λe=>match e[i]? with
 |some ↑(.ow _)=>(az f (az g aC) e).bind λr=>match r.1 with | [k,d]=>tY k d r.2 i |_=>none
 |_=>none
theorem Ek(t:aT X G H0 a f)(u:aT X G H0 b g)(an:bR Nn Cn X)(Z:‹Nn[i]?=↑x›)(I:‹attributeBase (.Name x p') "insert" X.env (eval (.Name x p') X.env)=eval (.Name x p') X.env›)(V:((backTo pos (starEach [a,b] X.env)).all (λx=>!x.1) && (backToKw pos (keywordEach [] X.env)).all (λx=>x.1.isSome)
   && decide ([a,b].length+([]:List Keyword).length+(if ([]:List Keyword).isEmpty then 0 else 1)<30))=true:=by rfl)(U:‹(p1.endLine==pos.line)=true›)(n:‹starEach [a,b] X.env=(false,eval a X.env)::starEach [b] X.env›)(c:‹starEach [b] X.env=(false,eval b X.env)::starEach [] X.env›)(e:‹(backTo pos (starEach [b] X.env)).any (·.1)=false›) :
  aT X G H0 (.Call (.Attribute (.Name x p') "insert" p1) [a,b] [] pos) (nS i f g):=⟨(pX h9 PySem.F.slot_list_insert PySem.F.type_list_insert Li ((an.a Z).pe) (bj t (bj u cz c) n).out I V U n e).imp λσ H Q w=>by
 obtain⟨W,env,d,env',ok,q,k⟩:=w;unfold nS at q;split at q;case h_2=>cases q
 rename_i y h;obtain⟨v,j,l,z,rfl,A,m,_⟩:=ok.slot i _ h;cases e1:az f (az g aC) env with
 |none=>rw[e1] at q;cases q
 |some r =>
   obtain⟨B,env1⟩:=r;rw[e1,ac] at q;dsimp only at q;split at q;case h_2=>cases q
   unfold tY at q;split at q;case h_2=>cases q
   rename_i kk ds o;split at q;case isFalse=>cases q
   rename_i C;obtain⟨E,J,p⟩:=C;cases q;refine⟨_,j,.inl ⟨rfl,_,.inl (.inl m)⟩,W,env,_,env1,ok,e1,λW1 K H1 L Y M=>?_⟩;obtain⟨T,s,l',vs,N,hW,O,r⟩:=Y.slot i _ o;rw[j] at s;cases s;cases N;cases M with
   |cons q1 r2 =>
   cases r2 with
   |cons q2 r3 =>
   cases r3;cases q1;obtain⟨P,R⟩:=Y.turn o j ((r.take kk.toNat).append (.cons q2 (r.drop kk.toNat)));have D:=r.length;have S:ds.length<sizeLine:=m2 (uj p);have c4:ds.length+1<=2 ^ 20:=p;exact⟨l,vs,kk,_,rfl,rfl,O,E,by rw[<-D];exact J,by lia,by rw[<-D];exact S,k W1 _ _ (L.trans R) P .non⟩⟩
def ql:ic->k7->DE0->DE0
 |i::ix,d::ds,e=>ql ix ds (e.set i ⇑d)
 |_,_,e=>e
def jD:ic->lF
 | []=>pH |i::ix=>CQ (p8 i) (jD ix)
def mD(ix:ic)(d:D)(e:DE0):Option DE0:=match d with
 | .tup ds=>if ds.length=ix.length then ↑(ql ix ds e) else none
 |_=>none
def gF(ix:ic)(g:FS):k7->DE0->Option (Fl×DE0)
 | [],e=>↑(.nx,e) |d::r,e=>(mD ix d e).bind λI=>(g I).bind λq=>match q.1 with | .nx=>gF ix g r q.2 | .ct=>gF ix g r q.2 | .bk=>↑(.nx,q.2) | .rt d=>↑(.rt d,q.2) | .rf ds=>↑(.rf ds,q.2) | .r2 ds=>↑(.r2 ds,q.2) | .xc c=>↑(.xc c,q.2) | .ra k ps=>↑(.ra k ps,q.2)
@[simp] def qi(ix:ic)(fi:FI)(g:FS):FS:=λe=>(fi e).bind λr=>gF ix g r.1 r.2
def El{K:kf}{W:Addr->Prop}{H:Hp}:∀(ix:ic) (ds:k7) (vs:k6) (env:DE0) (σ:St) (Q:St->Hp->Prop),Ok K G H0 W env σ H->aK K H (Ow G W) ds vs->ds.length=ix.length ->
  (∀I,Ok K G H0 W (ql ix ds env) I H->Q I H)->jD ix vs σ H Q
 | [],ds,vs,env,σ,Q,ok,r,hl,k=>by
   cases r with
   |nil=>exact⟨rfl,k σ ok⟩ |cons _ _=>cases hl
 |i::ix,ds,vs,env,σ,Q,ok,r,hl,k=>by
   cases r with
   |nil=>cases hl
   | @cons d v ds vs r0 r =>
     refine⟨v,vs,rfl,?_⟩;exact El ix ds vs _ _ Q (ok.set r0) r (oh hl) k
def uw  : jP X [] (jD []):=IE
variable{es:i0}
def l6(I:eN Nn X)(h:jP X es (jD ix))(D:‹Nn[i]?=↑x›)(U:‹(assignEach (.Name x pos::es) X.env).map (·.2)=assign (.Name x pos) X.env::(assignEach es X.env).map (·.2)›):jP X (.Name x pos::es) (jD (i::ix)):=IF (xU (I.t D).nd (I.t D).n (I.t D).l (I.t D).f) h U
def mE(hi:kX X G H0 (.Tuple es k p1) a fi)(h:jP X es (jD ix))(V:gE X G H0 body u)(Y:PassesOwn (model X.prog X.w) X.A X.env X.xe:=by passes_own)(I:‹X.calm=true›)(Z:‹(assignEach es X.env).length=ix.length›)(D:‹(assignEach es X.env).findIdx? (·.1)=none›)(c:∀x,foldedSetIterable a X.env x=pure x:=by intro _;rfl):eZ X G H0 (.For (.Tuple es k p1) a body [] pos) (qi ix fi u) :=
 Ei (b:=mD ix) (L:=gF ix u) hi (CS (n:=ix.length) I h Z D) V (λ{W env env' σ H d x Q} ok r e k=>by
  unfold mD at e;split at e;case h_2=>cases e
  split at e;case isFalse=>cases e
  rename_i U;cases e;cases r with
  | @tup a vs _ ht rr=>exact⟨a,vs,rfl,.inl (.inl ht),by rw[<-rr.length];exact U,El ix _ vs _ σ _ ok rr U k⟩) (λ_=>rfl) (λ_ _ _=>rfl) Y I c
def tZ(hi:jJ X G H0 (.Tuple es k p1) a fi)(h:jP X es (jD ix))(I:gE X G H0 body u)(U:PassesOwn (model X.prog X.w) X.A X.env X.xe:=by passes_own)(V:‹X.calm=true›)(Y:‹(assignEach es X.env).length=ix.length›)(D:‹(assignEach es X.env).findIdx? (·.1)=none›)(Z:∀x,foldedSetIterable a X.env x=pure x:=by intro _;rfl):eZ X G H0 (.For (.Tuple es k p1) a body [] pos) (qi ix fi u):=mE hi.dj h I U V Y D Z
def iB(F:FA)(g:FE):FA:=λe=>(F e).bind λr=>(g r.2).bind λq=>match q.1 with
 | .int k=>if bS (r.1.length*k.toNat)/\jB (-(2 ^ 62)) (2 ^ 62) k then ↑((List.replicate k.toNat r.1).flatten,q.2) else none
 |_=>none
def aK.rep{K:kf}{H:Hp}{O:Addr->Prop}{ds:k7}{vs:k6}(r:aK K H O ds vs):∀k:Nat,aK K H O (List.replicate k ds).flatten (List.replicate k vs).flatten
 |0=>.nil |k+1=>by
   exact r.append (aK.rep r k)
theorem Ad(j:gI X G H0 a F)(m:aT X G H0 b g):gI X G H0 (.BinOp a .Mult b pos) (iB F g):=⟨(y4 JU j.out m.out).imp λσ H Q p=>by
 obtain⟨W,env,d,env',ok,q,k⟩:=p;unfold iB at q;cases e1:F env with
 |none=>rw[e1] at q;cases q
 |some r =>
   obtain⟨ds,env1⟩:=r;rw[e1,ac] at q;cases e2:g env1 with
   |none=>rw[e2] at q;cases q
   |some r2 =>
     obtain⟨L,c⟩:=r2;rw[e2,ac] at q;dsimp only at q;split at q;case h_2=>cases q
     rename_i kk;split at q;case isFalse=>cases q
     rename_i s;obtain⟨t,u,v⟩:=s;cases q;refine⟨W,env,_,_,ok,e1,λW1 l vs H1 e D f w x i=>⟨W1,env1,_,_,D,e2,λy v2 H2 s2 I p2=>?_⟩⟩;have U:Step W H W1 H1:=⟨e.keep,λa h=>e.ws a (.inl h)⟩;have V:aK X.K H1 (Ow G W1) ds vs:=i.mono (λ_ _ h=>h) λa us o h=>⟨⟨o.1,λz=>o.2 (.inl z)⟩,h⟩;have Y:=D.reps s2 V;have Z:H2 l=↑(.lst vs):=s2.keep l _ x w;cases p2;refine⟨l,kk,vs,rfl,rfl,Z,by lia,by lia,?_,λn A=>?_⟩
     ·rw[<-i.length];exact d7 t (by rw[i4];decide)
     ·obtain⟨h1,h2,B,C,E,J⟩:=lX I (aK.rep Y kk.toNat) A
      exact k y n _ _ ((U.trans s2).trans h1) h2 B C E J⟩
variable{wr:ia}{pins:kv}{h2:Heap}
def Inv.tupled{tk:Nat}{T:Addr}{us:k4}(I:Inv X pins σ H s)(V:∀b∈wr,d_ X pins H b)(hT:s.heap.objs.size<=T)(j:T∉wr)(k:∀b o,b∉wr->s.heap.get? b=↑o->h2.get? b=↑o)(a:h2.IsTuple T us)(d:aP vs us.toList)(f:vs.length<=sizeLine) :
  Inv X pins σ (aV H T (.tup vs)) { s with heap:=h2,toks:=tk }:=by
 have Y:H T=none:=I.hok.fresh hT;have Z:∀b u,H b=↑u->b∉wr:=λb u e z=>by rw[(V b z).1] at e;cases e
 have neT:∀b o,s.heap.get? b=↑o->b≠T:=λb o e=>cf (b6 (bz e) hT);refine I.step (g':=s.gens) (d':=s.drawn) (ch:=wr) (λb D=>⟨(V b D).2.2.2.1,(V b D).2.1,(V b D).2.2.2.2.1,(V b D).2.2.2.2.2⟩) (λb o _ _ U e _=>k b o U e) (λb o _ _ U e _=>⟨o.slots,k b o U e⟩)
  (λb o _ e n=>by rw[jo (neT b o e)];exact n) (λb o U e=>⟨o,k b o U e⟩) (λb xs e=>by rw[jo (sw e Y)];exact e) (λb o u e=>by rw[jo (sw e Y)];exact e)
  (λb ps e=>⟨#[],by rw[jo (sw e Y),e];simp⟩) (λm g=>?_) (λb u e=>?_) I.bare
 ·obtain⟨o,es,h,i,r⟩:=g
  exact⟨o,es,h,k _ o (λz=>(V _ z).2.1 rfl) i,r⟩
 ·by_cases D:b=T
  ·subst D
   rw[m6] at e;cases e;exact⟨f,us.toList,d,by rw[Array.toArray_toList];exact a⟩
  ·rw[jo D] at e
   refine(I.hok b u e).stay (λc v U q=>k c v ?_ q) (λc q=>by rw[jo (sw q Y)];exact q) λc xs q=>by rw[jo (sw q Y)];exact q
   rcases U with z |z
   ·rw[z];exact Z b u e
   ·exact Z c _ z
def Inv.turnedL{tk:Nat}(I:Inv X pins σ H s)(U:∀b∈wr,d_ X pins H b)(k:∀b o,b∉wr->s.heap.get? b=↑o->h2.get? b=↑o) :
  Inv X pins σ H { s with heap:=h2,toks:=tk }:=by
 have V:∀b u,H b=↑u->b∉wr:=λb u e z=>by rw[(U b z).1] at e;cases e
 refine I.step (g':=s.gens) (d':=s.drawn) (ch:=wr) (λb Y=>⟨(U b Y).2.2.2.1,(U b Y).2.1,(U b Y).2.2.2.2.1,(U b Y).2.2.2.2.2⟩) (λb o _ _ D e _=>k b o D e) (λb o _ _ D e _=>⟨o.slots,k b o D e⟩)
  (λ_ _ _ _ n=>n) (λb o D e=>⟨o,k b o D e⟩) (λ_ _ e=>e) (λ_ _ _ e=>e) (λb ps e=>⟨#[],by rw[e];simp⟩) (λm Z=>?_) (λb u e=>?_) I.bare
 ·obtain⟨o,es,a,d,r⟩:=Z
  exact⟨o,es,a,k _ o (λz=>(U _ z).2.1 rfl) d,r⟩
 ·refine(I.hok b u e).stay (λc v D q=>k c v ?_ q) (λ_ q=>q) λ_ _ q=>q
  rcases D with z |z
  ·rw[z];exact V b u e
  ·exact V c _ z
def Ae(go:Nat->Hp->Prop)(pr:Nat->Hp->k6->Prop)(D:Nat->Hp->Prop):It :=
 ⟨go,λi H x H'=>∃t vs,H t=none/\x=.ref t/\H'=aV H t (.tup vs)/\pr i H vs,D⟩
variable{it:Addr}
def Em{Z:Nat->Heap->Prop}{go:Nat->Hp->Prop}{pr:Nat->Hp->k6->Prop}{U:Nat->Hp->Prop}(mem:it∈fp)(obj:∀i h,Z i h->∀b∈fp,∃o,h.get? b=↑o/\∀v,o.data≠.cell v)(keep:∀i h h',Z i h->(∀b∈fp,∀o,h.get? b=↑o->h'.get? b=↑o)->Z i h')(z:∀(X:Cx),X.prog=P->X.w=w->X.K=K->X.A.handled=none->∀(i:Nat) (pins:kv) (s:Shared) (σ:St) (H:Hp),Inv X pins σ H s->(∀b∈fp,d_ X pins H b)->Z i s.heap->(go i H\/U i H) ->
   ∃a wr n Pt St c j,WalksT P w X.A it a wr n Pt St c/\St j s.heap/\(∀b∈wr,b∈fp)/\(∀h,St (j+1) h->Z (i+1) h)/\(go i H->j<n)/\(U i H->j=n) /\
    (go i H->∀D,Pt j D->∃vs,aP vs D.toList/\vs.length<=sizeLine/\pr i H vs))(self:∀(A:Around) (i:Nat) (s:Shared) (Q:Value->Shared->Prop) (E:Value->Shared->Prop),Z i s.heap->Q (.ref it) s->wpAny (model P w) A (pyIter (.ref it)) Q E s) :
  i_ P w K (.Tuple es k pos) (Ae go pr U) fp it Z where
 mem:=mem
 obj:=obj
 keep:=keep
 item:=by
  intro X hP r t u i pins s σ H E I f st g;obtain⟨a,wr,n,Pt,St,c,j,W,x,d,l,lt,_,y⟩:=z X hP r t (I.ok.hd u) i pins s σ H I f st (.inl g);refine W.item j s _ _ (lt g) x λT D h1 tk B hT C m kk=>⟨_,rfl,?_⟩;obtain⟨vs,F,G,J⟩:=y g D B;have p:T∉wr:=W.apart j T h1 m;refine W.go es k pos j T _ _ _ m λh2 s2 q=>?_;refine⟨.ref T,aV H T (.tup vs),?_,rfl,⟨T,vs,I.hok.fresh hT,rfl,rfl,J⟩,l h2 s2,λb Y=>?_⟩
  ·exact I.tupled (λb Y=>f b (d b Y)) hT p (λb o Y e=>q b o Y (kk b o Y e)) (C.at λo e=>q T o p e) F G
  ·obtain⟨o,L,_⟩:=obj i _ st b Y
   rw[jo (cf (b6 (bz L) hT))];exact(f b Y).1
 done:=by
  intro X hP r t u i pins s σ H E I f st g;obtain⟨a,wr,n,Pt,St,c,j,W,x,d,l,_,M,_⟩:=z X hP r t (I.ok.hd u) i pins s σ H I f st (.inr g);cases M g;exact W.done s _ _ x λh1 tk kk=>⟨rfl,I.turnedL (λb Y=>f b (d b Y)) kk⟩
 self:=self
variable{A:Around}{l:Addr}
theorem Lj(I:A.handled=none)(U:l≠it)(c:Nat)(its:k4) :
  Draws P w A.in1 it [it,l] (c+its.size) (λj x=>∃i,j=c+i/\its[i]?=↑x) (λj h=>∃i,j=c+i/\i<=its.size/\h.IsListIter it l i/\h.IsList l its) where
 live:=λj h ⟨i,_,_,⟨o,e,_⟩,_⟩=>⟨o,e⟩
 frame:=λj h h' ⟨i,e,hi,a,b⟩ k=>⟨i,e,hi,a.at λo e=>k it ⋯ o e,b.at λo e=>k l ⋯ o e⟩
 item:=λj s Q E hj ⟨i,e,hi,a,b⟩ hQ=>by
  subst e;have hi:i<its.size:=by lia
  refine wpAny_nextOf_list_item a b (x:=its[i]) (by simp[hi]) λh' V D=>?_;exact hQ _ h' s.toks ⟨i,rfl,by simp[hi]⟩ ⟨i+1,by lia,hi,V,b.extBut D.extBut U⟩ D
 done:=λs Q E ⟨i,e,hi,a,b⟩ hE=>by
  have hi:i=its.size:=by lia
  subst hi;exact wpAny_nextOf_list_end I a b ⋯ hE
def Af(K:kf)(a:Addr)(c:Nat):It :=
 Ae (λi H=>∃xs x,dI K H a xs/\xs[i]?=↑x) (λi H vs=>∃y,vs=[↥(c+i:Nat),y]/\∀xs,dI K H a xs->xs[i]?=↑y) (λi H=>∃xs,dI K H a xs/\xs.length=i)
theorem En(a it e:Addr)(c:Nat)(R:e≠it) :
  i_ P w K (.Tuple es k pos) (Af K a c) [e,it] e (λi h=>(∃U,IsEnum h e it (c+i:Nat) U)/\h.IsListIter it a i):=by
 refine Em ⋯ (λi h st b G=>?_) (λi h h' st kk=>?_) ?_ λA i s Q E st W=>?_
 ·obtain⟨⟨U,V⟩,o,ho,_,hd⟩:=st
  rcases cr.mp G with z |z
  ·subst z
   exact⟨_,V,λv z=>by cases (show Data.fields _=Data.cell v from z)⟩
  ·cases d6.mp z
   exact⟨o,ho,λv z=>by rw[hd] at z;cases z⟩
 ·exact⟨st.1.imp λU V=>kk e ⋯ _ V,st.2.at λo x=>kk it ⋯ o x⟩
 ·intro X hP hw hK hh i pins s σ H I hf st d
  subst hP hw hK;obtain⟨⟨U,V⟩,f⟩:=st;have J:∃xs,dI X.K H a xs/\i<=xs.length:=by
   rcases d with⟨xs,x,q,g⟩ | ⟨xs,q,g⟩
   ·exact⟨xs,q,mj (aj.mp g).1⟩
   ·exact⟨xs,q,Nat.le_of_eq g.symm⟩
  obtain⟨xs,q,L⟩:=J;obtain⟨its,S,p,hz⟩:=I.list q;have hl:=S.length;obtain⟨ol,Z,j,_⟩:=id p.isList;obtain⟨oi,l,m,_⟩:=id f;have M:a≠it:=λz=>by
   subst z;rw[Z] at l;cases l;rw[j] at m;exact absurd m (by decide)
  have N:e≠a:=λz=>by
   subst z;rw[V] at Z;cases Z;exact absurd (show Value.type "enumerate" = Value.type "list" from j) (by decide)
  have D:=Lj (P:=X.prog) (w:=X.w) hh M c its.toArray;refine⟨_,_,_,_,_,_,c+i,WalksT.enumerateD D e R (by simp[R,N]) ⋯,⟨⟨U,V⟩,i,rfl,by simpa[<-hl] using L,f,p.isList⟩,λb G=>G,λh st=>?_,λd=>?_,λhs=>?_,λd T hv=>?_⟩
  ·obtain⟨⟨n,O⟩,r,e',_,B,_⟩:=st
   have:r=i+1:=by lia
   subst this;exact⟨⟨n,O⟩,B⟩
  ·obtain⟨ys,y,C,Y⟩:=d
   rw[I.list_inj C q] at Y;have:=(aj.mp Y).1;simp
   lia
  ·obtain⟨ys,C,Y⟩:=hs
   rw[I.list_inj C q] at Y;simp
   lia
  ·obtain⟨t,x,⟨r,e',g⟩,rfl⟩:=hv
   have:r=i:=by lia
   subst this;obtain⟨ys,y,C,Y⟩:=d;rw[I.list_inj C q] at Y;obtain⟨u,hu,ru⟩:=S.get Y;have:u=x:=by
    have F:its[r]?=↑x:=by simpa using g
    rw[hu] at F;cases F;rfl
   subst this;exact⟨[↥(c+r:Nat),y],.cons ⟨t,rfl⟩ (.cons ru .nil),by show 2<=sizeLine;rw[i4];decide,y,rfl,λzs J=>by rw[I.list_inj J q];exact Y⟩
 ·obtain⟨⟨U,V⟩,_⟩:=st
  exact zk V W
def Ah(K:kf)(a b:Addr):It :=
 Ae (λi H=>∃xs ys x y,dI K H a xs/\dI K H b ys/\xs[i]?=↑x/\ys[i]?=↑y) (λi H vs=>∃x y,vs=[x,y]/\(∀xs,dI K H a xs->xs[i]?=↑x)/\∀ys,dI K H b ys->ys[i]?=↑y)
  (λi H=>∃xs ys,dI K H a xs/\dI K H b ys/\min xs.length ys.length=i)
structure Eo (z ti to i1 i2:Addr):Prop where
 a1:ti≠z
 a2:to≠z
 a3:i1≠z
 a4:i2≠z
 a5:ti≠to
 a6:ti≠i1
 a7:ti≠i2
 a8:to≠i1
 a9:to≠i2
 aA:i1≠i2
variable{h:Heap}{o:Int->Int->Int}
def Lk{a b:Addr}{o o':Obj}(e:h.get? a=↑o)(e':h.get? b=↑o')(n:o.cls≠o'.cls):a≠b:=λz=>by
 subst z;rw[e] at e';cases e';exact n rfl
theorem Ll(a b z ti to C F:Addr)(Z:Eo z ti to C F) :
  i_ P w K (.Tuple es k pos) (Ah K a b) [z,ti,to,C,F] z (λi h=>IsZip h z ti to .none/\IsPair h ti (.ref C) (.ref F)/\(∃u v,IsPair h to u v)/\h.IsListIter C a i/\h.IsListIter F b i):=by
 refine Em ⋯ (λi h st c G=>?_) (λi h h' st kk=>?_) ?_ λA i s Q E st hQ=>?_
 ·obtain⟨d,h1,⟨u,v,h2⟩,⟨o3,m,_,d3⟩,o4,r,_,d4⟩:=st
  simp at G;rcases G with rfl |rfl |rfl |rfl |rfl
  ·exact⟨_,d,λv q=>by cases (show Data.fields _=Data.cell v from q)⟩
  ·exact⟨_,h1,λv q=>by cases (show Data.seq _ _=Data.cell v from q)⟩
  ·exact⟨_,h2,λv q=>by cases (show Data.seq _ _=Data.cell v from q)⟩
  ·exact⟨_,m,λv q=>by rw[d3] at q;cases q⟩
  ·exact⟨_,r,λv q=>by rw[d4] at q;cases q⟩
 ·obtain⟨d,h1,⟨u,v,h2⟩,m,r⟩:=st
  exact⟨kk z ⋯ _ d,kk ti ⋯ _ h1,⟨u,v,kk to ⋯ _ h2⟩,m.at λo e=>kk C ⋯ o e,r.at λo e=>kk F ⋯ o e⟩
 ·intro X hP hw hK hh i pins s σ H I hf st J
  subst hP hw hK;obtain⟨d,h1,⟨u,v,h2⟩,m,r⟩:=st;have L:∃xs ys,dI X.K H a xs/\dI X.K H b ys/\i<=xs.length/\i<=ys.length:=by
   rcases J with⟨xs,ys,x,y,q,f,Y,t⟩ | ⟨xs,ys,q,f,Y⟩
   ·exact⟨xs,ys,q,f,mj (aj.mp Y).1,mj (aj.mp t).1⟩
   ·exact⟨xs,ys,q,f,by lia,by lia⟩
  obtain⟨xs,ys,q,f,al,ab⟩:=L;obtain⟨its,rv,p,_⟩:=I.list q;obtain⟨its',M,p',_⟩:=I.list f;have hl:=rv.length;have an:=M.length;obtain⟨ol,g,j,_⟩:=id p.isList;obtain⟨ap,U,V,_⟩:=id p'.isList;obtain⟨o3,N,O,_⟩:=id m;obtain⟨o4,R,S,_⟩:=id r;have B:∀ {l o T c o'},s.heap.get? l=↑o->o.cls=.type "list"->s.heap.get? c=↑o'->o'.cls=.type T->T ≠ "list"->l≠c:=λe1 e2 e3 e4 n=>Lk e1 e3 (by rw[e2,e4];intro z;cases z;exact n rfl);have D:ZipApart z ti to C F a b:=⟨Z.a1,Z.a2,Z.a3,Z.a4,Z.a5,Z.a6,Z.a7,Z.a8,Z.a9,Z.aA,B (T:="zip") g j d rfl (by decide),B (T:="tuple") g j h2 rfl (by decide),B g j N O (by decide),B g j R S (by decide),B (T:="zip") U V d rfl (by decide),B (T:="tuple") U V h2 rfl (by decide),B U V N O (by decide),B U V R S (by decide)⟩;refine⟨_,_,_,_,_,_,i,WalksT.zip2 hh z ti to C F a b D its.toArray its'.toArray,⟨d,h1,⟨u,v,h2⟩,m,r,p.isList,p'.isList⟩,λc G=>?_,λh st=>?_,λJ=>?_,λhs=>?_,λJ ag hv=>?_⟩
  ·simp at G ⊢
   rcases G with rfl |rfl |rfl |rfl <;> simp
  ·obtain⟨d,h1,h2,m,r,_,_⟩:=st
   exact⟨d,h1,h2,m,r⟩
  ·obtain⟨W,aa,x,y,q1,q2,Y,t⟩:=J
   rw[I.list_inj q1 q] at Y;rw[I.list_inj q2 f] at t;have:=(aj.mp Y).1;have:=(aj.mp t).1;simp
   lia
  ·obtain⟨W,aa,q1,q2,Y⟩:=hs
   rw[I.list_inj q1 q,I.list_inj q2 f] at Y;simp
   lia
  ·obtain⟨W,aa,x,y,q1,q2,Y,t⟩:=J
   rw[I.list_inj q1 q] at Y;rw[I.list_inj q2 f] at t;obtain⟨ux,uy,eu,ew,rfl⟩:=hv;obtain⟨u1,e1,r1⟩:=rv.get Y;obtain⟨u2,e2,r2⟩:=M.get t;have t1:u1=ux:=by
    have z:its[i]?=↑ux:=by simpa using eu
    rw[e1] at z;cases z;rfl
   have t2:u2=uy:=by
    have z:its'[i]?=↑uy:=by simpa using ew
    rw[e2] at z;cases z;rfl
   subst t1;subst t2;exact⟨[x,y],.cons r1 (.cons r2 .nil),by show 2<=sizeLine;rw[i4];decide,x,y,rfl,λzs L=>by rw[I.list_inj L q];exact Y,λzs L=>by rw[I.list_inj L f];exact t⟩
 ·exact wpAny_pyIter_zip st.1 hQ
abbrev jW(h:Heap)(l:Addr):Heap:=h.push { cls:=.type "list_iterator",data:=.fields #[.ref l,.int 0 0] }
abbrev iC(h:Heap)(l:Addr):Heap:=(jW h l).push { cls:=.type "enumerate",data:=.fields #[.none,.bool false,.ref h.objs.size,rawInt 1,.none,.none] }
def Lm(v:Value)(t:Tok):checkTypeCall "enumerate" ⟨[v],[("start",.int 1 t)]⟩=pure ():=by kernel_rfl
def Ln(v:Value)(t:Tok):checkBuiltinCall "enumerate.__new__" ⟨[.type "enumerate",v],[("start",.int 1 t)]⟩=pure ():=by kernel_rfl
def Lo(l:Addr)(D:k4)(n:Nat)(U:Option Addr)(sl:Array h8)(t:Tok) :
  Meets (Builtin.«enumerate.__new__» ⟨[.type "enumerate",.ref l],[("start",.int 1 t)]⟩) (λ_ R s=>s.heap.get? l=↑⟨.type "list",U,.seq D n,sl⟩/\R (.ok (.ret (.ref (jW s.heap l).objs.size))) { s with heap:=iC s.heap l }) :=
 .of_wp λprog w A R s h=>by
  obtain⟨Z,g,d,tk,os⟩:=s;obtain⟨I,h⟩:=h;have V:=sub_enumerate;have Y:Heap.IsList (Shared.heap ⟨Z,g,d,tk,os⟩) l D:=⟨_,I,rfl,n,rfl⟩
  wp_walk using AutoSeq1.wpAny_loadPart' I
  refine wpAny_stack_any λst=>dg ?_;split
  ·rename_i c _ _ _ _ _
   cases (c==Value.type "enumerate") <;> (refine ax (wpAny_of_eq (a:=(Value.ref l,↑(Value.int 1 t))) (by rfl) ?_);wp_walk using AutoSeq1.wpAny_loadPart' I,lw Y;exact⟨_,rfl,h⟩)
  ·refine ax (wpAny_of_eq (a:=(Value.ref l,↑(Value.int 1 t))) (by rfl) ?_);wp_walk using AutoSeq1.wpAny_loadPart' I,lw Y;exact⟨_,rfl,h⟩
variable{t:Tok}
theorem Lp{v x:Value}:Meets (Builtin.«object.__init__» ⟨[v,x],[("start",.int 1 t)]⟩) (λ_ R s=>s.TypeIs v "enumerate"/\R (.ok (.ret .none)) s) :=
 .of_wp λprog w A R s D=>by
  obtain⟨hT,h⟩:=D;have I:=F.called_enumerate.made;have U:=F.called_enumerate.init.lookup;repeat (any_goals (first |assumption |wp_step))
  exact⟨_,rfl,h⟩
theorem Lq(a b:Value)(t:Tok):argsOk "object.__init__" ⟨[a,b],[("start",.int 1 t)]⟩:=by
 unfold argsOk;rw[signature?_of (id:="object.__init__") (n:=['_','_','t','i','n','i','_','_']) (o:=['t','c','e','j','b','o']) (by kernel_rfl) F.owner_object];kernel_rfl
variable{Q E:Value->Shared->Prop}{prog:Program}
theorem Lr{D:k4}(b:s.heap.IsList l D)(h:Q (.ref (jW s.heap l).objs.size) { s with heap:=iC s.heap l }):wpAny (model prog w) A (call (.type "enumerate") [.ref l] [("start",.int 1 t)]) Q E s:=by
 obtain⟨⟨c,U,d,sl⟩,e,V,n,hd⟩:=b;replace V:c=.type "list":=V;replace hd:d=.seq D n:=hd;subst V hd;have Y:=F.called_enumerate.made;have a:=F.called_enumerate.sub;have f:=Lm (.ref l) t;refine nn (codeAny_of_tree (show wpAny _ _ (callAny (.type "enumerate") _) _ _ _ from dg ⟨Code.quiet_builtin _ (by decide +kernel),rg F.entry_type_call ?_⟩));repeat (any_goals (first |assumption |wp_step))
 refine j5 (mr (R:=λr I=>r=.ok (.ret (.ref (jW s.heap l).objs.size))/\I={ s with heap:=iC s.heap l }) F.called_enumerate.plain F.entry_enumerate_new (wpAny_of_eq (Ln _ t) (Lo l D n U sl t prog w A.in1 (λr I=>r=.ok (.ret (.ref (jW s.heap l).objs.size))/\I={ s with heap:=iC s.heap l }) s ⟨e,rfl,rfl⟩))) λr I g=>?_;obtain⟨rfl,rfl⟩:=g;have hT:Shared.TypeIs { s with heap:=iC s.heap l } (.ref (jW s.heap l).objs.size) "enumerate":=⟨_,db _ rfl,rfl⟩;have i:=F.called_enumerate.init.lookup;have j:=F.called_enumerate.init.bind (.ref (jW s.heap l).objs.size);repeat (any_goals (first |assumption |wp_step))
 refine j5 (mr (R:=λr s2=>r=.ok (.ret .none)/\s2={ s with heap:=iC s.heap l }) F.called_enumerate.init.plain F.entry_object_init (F.called_enumerate.init.check _ _ _ _ _ _ _ _ hT (Lq _ _ t) (Lp prog w A.in1 (λr s2=>r=.ok (.ret .none)/\s2={ s with heap:=iC s.heap l }) _ ⟨hT,rfl,rfl⟩))) λk s2 Z=>?_;obtain⟨rfl,rfl⟩:=Z;repeat (any_goals (first |assumption |wp_step))
theorem Ls(n:Nat):Eo (n+4) (n+2) (n+3) n (n+1):=by
 have h:∀i j:Nat,i≠j->n+i≠n+j:=λi j z=>by lia
 exact⟨h 2 4 (by decide),h 3 4 (by decide),h 0 4 (by decide),h 1 4 (by decide),h 2 3 (by decide),h 2 0 (by decide),h 2 1 (by decide),h 3 0 (by decide),h 3 1 (by decide),h 0 1 (by decide)⟩
variable{c:Nat}
theorem qM(h:c∈[n+1,n]):n<=c:=by simp at h;lia
theorem Ai(h:c∈[n+4,n+2,n+3,n,n+1]):n<=c:=by simp at h;lia
def Ep:bootBuiltins "enumerate" = ↑(.type "enumerate"):=by decide +kernel
def Lu:bootBuiltins "zip" = ↑(.type "zip"):=by decide +kernel
def Aj(K:kf)(c:Nat)(ta:TA):TI:=λσ H R=>ta σ H λvs H1=>∃l xs,vs=[.ref l]/\dI K H1 l xs/\R (Af K l c) H1
def Ak(K:kf)(ta:TA):TI:=λσ H R=>ta σ H λvs H1=>∃l l' xs ys,vs=[.ref l,.ref l']/\dI K H1 l xs/\dI K H1 l' ys/\R (Ah K l l') H1
variable{p:Pos}{ta:TA}
def Lv(Z:Bn X "enumerate")(d:PA X [a] ta)(f:‹starEach [a] X.env=[(false,eval a X.env)]›) :
  PI X (.Tuple es k p1) (.Call (.Name "enumerate" p) [a] [] pos) (Aj X.K 0 ta):=by
 intro pins s σ H R I h;refine Call_ (y8 I Z.g Z.m Ep (i5 (bI (d pos pins s σ H _ I h) λus D i=>?_) f rfl));obtain⟨vs,H1,U,j,n⟩:=i;obtain⟨l,xs,e,o,q⟩:=n;subst e;cases j with
 |cons r rr =>
   cases rr;cases r;obtain⟨its,v,pl,w⟩:=U.list o;refine call_enumerate_list pl.isList λh' b Y t u=>zk b ?_;refine⟨D.heap.objs.size+1,[D.heap.objs.size+1,D.heap.objs.size],_,_,H1,rfl,U.kept (t':=D.toks) u,En l _ _ 0 (Nat.succ_ne_self _),⟨⟨.none,b⟩,Y⟩,λc V=>?_,q⟩;have V:D.heap.objs.size<=c:=qM V;exact U.fpOk V (U.hok.fresh V)
variable{p2 kp:Pos}
def Lw(b:Bn X "enumerate")(f:PA X [a] ta)(n:‹starEach [a] X.env=(false,eval a X.env)::starEach [] X.env›)(Y:‹(backTo pos (starEach [a] X.env)).any (·.1)=false›) :
  PI X (.Tuple es k p1) (.Call (.Name "enumerate" p) [a] [⟨some "start",.Constant ↥1 j p2,kp⟩] pos) (Aj X.K 1 ta):=by
 intro pins s σ H R I h;refine je (y8 I b.g b.m Ep ?_);refine PySem.W.callWith_of (P:=λ_=>True) (by rw[Y];rfl) (λ_ _=>⟨Keeper.machine,.inr (.inl rfl),PySem.W.Looks.of_pure rfl⟩) (evalArgs_kw2 rfl (bI (f pos pins s σ H _ I h) λus u Z=>?_) n);obtain⟨vs,H1,v,w,x⟩:=Z;refine bI (Jz (nm:=some "start") (kpos:=kp) (pG (i:=1) (j:=j) (pos:=p2)) Jy pos pins u σ H1 (λws H2=>H2=H1/\ws=[↥1]) v ⟨rfl,rfl⟩) λws s2 Z=>?_;obtain⟨C,H2,V,y,z,A⟩:=Z;refine⟨trivial,?_⟩;subst z A;obtain⟨l,xs,e,B,q⟩:=x;subst e;cases w with
 |cons r rr =>
   cases rr;cases r;cases y with
   |cons r' rr' =>
   obtain⟨t,rfl⟩:=r';obtain⟨its,E,pl,F⟩:=V.list B;refine Lr (t:=t) pl.isList ?_;have d:IsEnum (iC s2.heap l) (jW s2.heap l).objs.size s2.heap.objs.size 1 .none:=db _ rfl;have D:(jW s2.heap l).objs.size=s2.heap.objs.size+1:=j3 ..;refine zk d ?_;refine⟨(jW s2.heap l).objs.size,[(jW s2.heap l).objs.size,s2.heap.objs.size],_,_,H2,rfl,V.kept (t':=s2.toks) (λc o e=>au _ (au _ e)),En l _ _ 1 (by rw[D];exact Nat.succ_ne_self _),⟨⟨.none,d⟩,⟨_,au _ (db _ rfl),rfl,rfl⟩⟩,λc U=>?_,q⟩;have U:s2.heap.objs.size<=c:=by rw[D] at U;exact qM U
   exact V.fpOk U (V.hok.fresh U)
def Lx(f:Bn X "zip")(j:PA X [a,b] ta)(n:‹starEach [a,b] X.env=[(false,eval a X.env),(false,eval b X.env)]›)(U:‹starEach [b] X.env=[(false,eval b X.env)]›) :
  PI X (.Tuple es k p1) (.Call (.Name "zip" p) [a,b] [] pos) (Ak X.K ta):=by
 intro pins s σ H R I h;refine Call_ (y8 I f.g f.m Lu (i5 (bI (j pos pins s σ H _ I h) λus D o=>?_) (by rw[n,U]) (by rw[U];rfl)));obtain⟨vs,H1,V,t,u⟩:=o;obtain⟨l,l',xs,ys,e,v,Z,q⟩:=u;subst e;cases t with
 |cons r rr =>
   cases rr with
   |cons r' rr =>
   cases rr;cases r;cases r';obtain⟨its,F,pl,G⟩:=V.list v;obtain⟨its',w,d,x⟩:=V.list Z;refine call_zip_2 pl.isList d.isList λh' i y z A B C E=>wpAny_pyIter_zip i ?_;refine⟨_,[D.heap.objs.size+4,D.heap.objs.size+2,D.heap.objs.size+3,D.heap.objs.size,D.heap.objs.size+1],_,_,H1,rfl,V.kept (t':=D.toks) E,Ll l l' _ _ _ _ _ (Ls _),⟨i,y,⟨_,_,z⟩,A,B⟩,λc Y=>?_,q⟩;have Y:D.heap.objs.size<=c:=Ai Y;exact V.fpOk Y (V.hok.fresh Y)
def rn:Nat->k7->k7
 |_,[]=>[] |c,d::r=>.tup [↥c,d]::rn (c+1) r
def fB:k7->k7->k7
 |d::r,d'::r'=>.tup [d,d']::fB r r' |_,_=>[]
theorem Er:∀(ds:k7) (c i:Nat),(rn c ds)[i]?=ds[i]?.map λd=>.tup [↥(c+i:Nat),d]
 | [],c,i=>by simp[rn]
 |d::r,c,0=>by simp[rn] |d::r,c,i+1=>by
   simp only[rn,af];rw[Er r (c+1) i];rw[show c+1+i=c+(i+1) by lia]
def Es:∀(ds:k7) (c:Nat),(rn c ds).length=ds.length
 | [],_=>rfl |d::r,c=>by simp[rn,Es r]
def Et:∀(ds es:k7) (i:Nat) (p:D),(fB ds es)[i]?=↑p->∃d e,ds[i]?=↑d/\es[i]?=↑e/\p=.tup [d,e]
 |d::r,e::r',0,p,h=>by simp[fB] at h;exact⟨d,e,by simp,by simp,h.symm⟩ |d::r,e::r',i+1,p,h=>by
   exact Et r r' i p h
def Eu:∀(ds es:k7),(fB ds es).length=min ds.length es.length
 | [],es=>by simp[fB] |d::r,[]=>by simp[fB] |d::r,e::r'=>by simp[fB,Eu r r']
@[simp] def iQ(c:Nat)(ds:k7):Option k7:=match ds with | [.lst ds]=>↑(rn c ds) |_=>none
@[simp] def mG(ds:k7):Option k7:=match ds with | [.lst ds,.lst es]=>↑(fB ds es) |_=>none
def Ev{t:Addr}(r:aK K H' (Ow G W') ds vs)(D:H' t=none):a_ K (aV H' t (.tup vs)) (Ow G W') (.tup ds) (.ref t):=by
 refine .tup (m6 ..) (r.mono (λa us e=>by rw[jo (sw e D)];exact e) λa us o h=>⟨o,?_⟩);exact h.keep λo e=>by rw[jo (sw e D)];exact e
def Ly(c:Nat)(ok:Ok X.K G H0 W env σ H)(h:gZ X.K H (Ow G W) l vs)(r:aK X.K H (Ow G W) ds vs):zV X.K G (Af X.K l c) W H (rn c ds) where
 go:=λW' H' i d st e=>by
  rw[Er] at e;cases e0:ds[i]? with
  |none=>rw[e0] at e;cases e
  |some d0 =>
    rw[e0] at e;cases e;obtain⟨v,D,I⟩:=(ok.reps st r).get e0;have h':=(ok.lsstep st h).sq;refine⟨⟨vs,v,h',D⟩,λx H'' ⟨t,us,hn,ex,eH,y,eu,hy⟩=>?_⟩;subst ex eH eu;have:=hy vs h';rw[D] at this;cases this;exact⟨lU hn,Ev (.cons ↥_ (.cons I .nil)) hn⟩
 stop:=λW' H' st=>⟨vs,(ok.lsstep st h).sq,by rw[Es,r.length]⟩
def Lz{l':Addr}{vs':k6}{es:k7}(ok:Ok X.K G H0 W env σ H)(h:gZ X.K H (Ow G W) l vs)(h':gZ X.K H (Ow G W) l' vs')(r:aK X.K H (Ow G W) ds vs)(I:aK X.K H (Ow G W) es vs'):zV X.K G (Ah X.K l l') W H (fB ds es) where
 go:=λW' H' i d st e=>by
  obtain⟨m,n,f,g,rfl⟩:=Et _ _ _ _ e;obtain⟨v1,U,j⟩:=(ok.reps st r).get f;obtain⟨v2,Y,k⟩:=(ok.reps st I).get g;have Z:=(ok.lsstep st h).sq;have a:=(ok.lsstep st h').sq;refine⟨⟨vs,vs',v1,v2,Z,a,U,Y⟩,λx H'' ⟨t,us,hn,ex,eH,y1,y2,eu,hy1,hy2⟩=>?_⟩;subst ex eH eu;have b:=hy1 vs Z;have c:=hy2 vs' a;rw[U] at b;cases b;rw[Y] at c;cases c;exact⟨lU hn,Ev (.cons j (.cons k .nil)) hn⟩
 stop:=λW' H' st=>⟨vs,vs',(ok.lsstep st h).sq,(ok.lsstep st h').sq,by rw[Eu,r.length,I.length]⟩
def Ew(I:PI X tg e (Aj X.K c (lG X.K G H0 F))):kX X G H0 tg e (jv (iQ c) F):=⟨I.imp λσ H R U=>by
 obtain⟨W,env,ds,env',ok,q,k⟩:=U;cases e1:F env with
 |none=>simp[e1] at q |some z =>
   obtain⟨as,env1⟩:=z;cases e2:iQ c as with
   |none=>rw[jv,e1] at q;simp only[ac,e2] at q;cases q
   |some d' =>
     have q:↑(d',env1)=↑(ds,env'):=by rw[jv,e1] at q;simp only[ac,e2] at q;exact q
     cases q;refine⟨W,env,as,_,ok,e1,λW1 vs H1 V D p1=>?_⟩;unfold iQ at e2;split at e2
     ·rename_i xs
      cases e2;obtain⟨v,rfl,Y⟩:=vw p1;obtain⟨l,us,rfl,h,r⟩:=Y.lst_;exact⟨l,us,rfl,h.sq,k W1 _ H1 V D (Ly c D h r)⟩
     ·cases e2⟩
def t_(D:fG X G H0 [a] F)(I:Bn X "enumerate":=by walk_at "b")(U:‹starEach [a] X.env=[(false,eval a X.env)]›) :
  kX X G H0 (.Tuple es k p1) (.Call (.Name "enumerate" p) [a] [] pos) (jv (iQ 0) F):=Ew (Lv I D.out U)
def L0(I:fG X G H0 [a] F)(U:Bn X "enumerate":=by walk_at "b")(V:‹starEach [a] X.env=(false,eval a X.env)::starEach [] X.env›)(D:‹(backTo pos (starEach [a] X.env)).any (·.1)=false›) :
  kX X G H0 (.Tuple es k p1) (.Call (.Name "enumerate" p) [a] [⟨some "start",.Constant ↥1 j p2,kp⟩] pos) (jv (iQ 1) F):=Ew (Lw U I.out V D)
def Ex(V:fG X G H0 [a,b] F)(Y:Bn X "zip":=by walk_at "b")(Z:‹starEach [a,b] X.env=[(false,eval a X.env),(false,eval b X.env)]›)(I:‹starEach [b] X.env=[(false,eval b X.env)]›) :
  kX X G H0 (.Tuple es k p1) (.Call (.Name "zip" p) [a,b] [] pos) (jv mG F):=⟨(Lx Y V.out Z I).imp λσ H R c=>by
 obtain⟨W,env,ds,env',ok,q,k⟩:=c;cases e1:F env with
 |none=>simp[e1] at q |some z =>
   obtain⟨as,env1⟩:=z;cases e2:mG as with
   |none=>rw[jv,e1] at q;simp only[ac,e2] at q;cases q
   |some d' =>
     have q:↑(d',env1)=↑(ds,env'):=by rw[jv,e1] at q;simp only[ac,e2] at q;exact q
     cases q;refine⟨W,env,as,_,ok,e1,λW1 vs H1 d D p1=>?_⟩;unfold mG at e2;split at e2
     ·rename_i xs ys
      cases e2;obtain⟨v,i,rfl,e,f⟩:=tJ p1;obtain⟨l,us,rfl,h,r⟩:=e.lst_;obtain⟨l',U,rfl,h',g⟩:=f.lst_;exact⟨l,l',us,U,rfl,h.sq,h'.sq,k W1 _ H1 d D (Lz D h h' r g)⟩
     ·cases e2⟩
def L1{env0:DE0}{z:Int}(h:aB i env=↑(.int z,env0)):env[i]?=↑⇑↥z/\env0=env:=by
 unfold aB at h;split at h
 ·rename_i d hd
  cases h;exact⟨hd,rfl⟩
 all_goals cases h
variable{op:D->D->k8}
def L3(Y:∀D I d,op D I=↑d->∃u v,D=.int u/\I=.int v/\d=.int (o u v)):∀Dn σ H,tR X G H0 (aI i (aD op (aB i) f)) Dn σ H->pK i (tD X.K G H0 f) (sT o) Dn σ H :=
 λDn σ H Z=>by
 obtain⟨W,env,fl,env',ok,q,k⟩:=Z;unfold aI aD at q;cases e0:aB i env with
 |none=>rw[e0] at q;cases q
 |some r0 =>
   obtain⟨a,env0⟩:=r0;rw[e0,ac] at q;cases e1:f env0 with
   |none=>rw[e1] at q;cases q
   |some U =>
     obtain⟨D,env1⟩:=U;rw[e1,ac] at q;cases e2:op a D with
     |none=>rw[e2] at q;cases q
     |some I =>
       rw[e2] at q;cases q;obtain⟨u,v,rfl,rfl,rfl⟩:=Y _ _ _ e2;obtain⟨b,rfl⟩:=L1 e0;obtain⟨y,c,e⟩:=ok.slot i _ b;refine⟨y,c,W,env0,_,_,ok,e1,λW1 v1 H1 g V U=>⟨u,v,a_.int_ e,U.int_,k W1 _ H1 g (V.set ↥_)⟩⟩
def mH(I:eN Nn X)(U:aT X G H0 e f)(D:‹Nn[i]?=↑x›) :
  eZ X G H0 (.AugAssign (.Name x p') .Add e pos) (aI i (aD jw (aB i) f)):=⟨(IG (I.t D).nd (I.t D).n (I.t D).l U.out CV (I.t D).f).imp (L3 λV Y d h=>by
 cases V <;> try (cases h;done)
 all_goals cases Y <;> first | (cases h;done) |exact⟨_,_,rfl,rfl,(cg h).symm⟩)⟩
def Ey:V->V->Hp->VK->Prop:=λo i H Q=>∃l xs k v,o=.ref l/\i=.int k/\H l=↑(.lst xs)/\0<=k/\xs[k.toNat]?=↑v/\Q v H
theorem Ez:pL X Ey:=by
 intro pins s σ H o i b c Q I ro V h;obtain⟨l,xs,k,v,rfl,rfl,Y,Z,U,q⟩:=h;cases ro;obtain⟨t,rfl⟩:=V;obtain⟨its,r,pl,d⟩:=I.list (.inl (.inl Y));obtain⟨w,a,D⟩:=r.get U;have e:=(aj.mp U).1;have f:=nF;exact wpAny_getItem_list pl.isList Z ∅ (by simpa using a) ⟨v,H,I,D,q⟩
def u0(i:Nat)(op:D->D->k8)(k:Int)(d v:D)(e:DE0):Option (Fl×DE0):=match e[i]? with
 |some ↑(.ow ds)=>if k.toNat<ds.length then(op d v).map λr=>(.nx,e.set i ↑(.ow (ds.set k.toNat r))) else none
 |_=>none
def y0(i:Nat)(op:D->D->k8)(V Y:FE):FS:=λe=>match e[i]? with
 |some ↑(.ow _)=>(V e).bind λI=>match I.1,I.2[i]? with
   | .int k,↑↑(.ow ds)=>if 0<=k then(ds[k.toNat]?).bind λd=>(Y I.2).bind λU=>u0 i op k d U.1 U.2 else none
   |_,_=>none
 |_=>none
theorem E1(z:∀s t d,op s t=↑d->∃u v,s=.int u/\t=.int v/\d=.int (o u v)) :
  ∀Dn σ H,tR X G H0 (y0 i op g f) Dn σ H->CT (jO i) (tD X.K G H0 g) (tD X.K G H0 f) Ey (sT o) D3 Dn σ H:=λDn σ H A=>by
 obtain⟨W,env,fl,env',ok,q,k⟩:=A;unfold y0 at q;split at q;case h_2=>cases q
 rename_i B c;obtain⟨v,a,l,C,rfl,E,F,_⟩:=ok.slot i _ c;cases e1:g env with
 |none=>rw[e1] at q;cases q
 |some b =>
 obtain⟨dk,env1⟩:=b;rw[e1,ac] at q;dsimp only at q;split at q;case h_2=>cases q
 rename_i kk ds J;split at q;case isFalse=>cases q
 rename_i I;cases e2:ds[kk.toNat]? with
 |none=>rw[e2] at q;cases q
 |some dd =>
 rw[e2,ac] at q;cases e3:f env1 with
 |none=>rw[e3] at q;cases q
 |some r3 =>
 obtain⟨L,x⟩:=r3;rw[e3,ac] at q;unfold u0 at q;split at q;case h_2=>cases q
 rename_i M U;split at q;case isFalse=>cases q
 cases e4:op dd L with
 |none=>rw[e4] at q;cases q
 |some dr =>
 rw[e4] at q;cases q;obtain⟨u,w,rfl,rfl,rfl⟩:=z _ _ _ e4;refine⟨_,a,W,env,_,_,ok,e1,λW1 v1 H1 N V b=>?_⟩;obtain⟨O,D,l',e,P,Q,h,j⟩:=V.slot i _ J;rw[a] at D;cases D;cases P;obtain⟨R,m,n⟩:=j.get e2;refine⟨l,e,kk,R,rfl,b.int_,h,I,m,W1,env1,_,_,V,e3,λS v2 H2 s2 Y T=>?_⟩;refine⟨u,w,n.int_,T.int_,?_⟩;obtain⟨O,D,l',p,e6,aa,r,Z⟩:=Y.slot i _ U;rw[a] at D;cases D;cases e6;obtain⟨t1,t2⟩:=Y.turn U a (aK.set ↥(o u w) kk.toNat Z);have y:=Z.length;refine⟨l,p,kk,kk.toNat,rfl,b.int_,r,?_,k S _ _ ((N.trans s2).trans t2) t1⟩;unfold dV;rw[aq I,aq ∅]
def L4(V:aT X G H0 b g)(Y:aT X G H0 e f)(an:bR Nn Cn X)(U:‹Nn[i]?=↑x›)(Z:∀D I new,augStore b D I new=(do holding [new,D,I] (setItem D I new);release [new,D,I] [];pure .next):=by intros;rfl) :
  eZ X G H0 (.AugAssign (.Subscript (.Name x p') b p1) .Add e pos) (y0 i jw g f):=⟨(CU ((an.a U).pe) V.out Ez Y.out CV nH Z).imp (E1 λc j d h=>by
 cases c <;> try (cases h;done)
 all_goals cases j <;> first | (cases h;done) |exact⟨_,_,rfl,rfl,(cg h).symm⟩)⟩
def L5(V:aT X G H0 b g)(Y:aT X G H0 e f)(an:bR Nn Cn X)(U:‹Nn[i]?=↑x›)(Z:∀D I new,augStore b D I new=(do holding [new,D,I] (setItem D I new);release [new,D,I] [];pure .next):=by intros;rfl) :
  eZ X G H0 (.AugAssign (.Subscript (.Name x p') b p1) .Sub e pos) (y0 i bA g f):=⟨(CU ((an.a U).pe) V.out Ez Y.out IH nH Z).imp (E1 λc j d h=>by
 cases c <;> try (cases h;done)
 all_goals cases j <;> first | (cases h;done) |exact⟨_,_,rfl,rfl,(cg h).symm⟩)⟩
def Al(I:k7)(e:DE0)(i:Nat):Option (D×DE0):=match e[i]? with
 |some ↑(.ow ds)=>if bS (ds.length+I.length) then ↑(.non,e.set i ↑(.ow (ds++I))) else none
 |_=>none
def u3(i:Nat)(F:FA):FE:=λe=>match e[i]? with
 |some ↑(.ow _)=>(F e).bind λr=>Al r.1 r.2 i
 |_=>none
def L6(m:gI X G H0 a F)(an:bR Nn Cn X)(Z:‹Nn[i]?=↑x›)(D:‹attributeBase (.Name x p') "extend" X.env (eval (.Name x p') X.env)=eval (.Name x p') X.env›)(U:((backTo pos (starEach [a] X.env)).all (λx=>!x.1) && (backToKw pos (keywordEach [] X.env)).all (λx=>x.1.isSome)
   && decide ([a].length+([]:List Keyword).length+(if ([]:List Keyword).isEmpty then 0 else 1)<30))=true:=by rfl)(I:‹(p1.endLine==pos.line)=true›)(f:‹starEach [a] X.env=(false,eval a X.env)::starEach [] X.env›) :
  aT X G H0 (.Call (.Attribute (.Name x p') "extend" p1) [a] [] pos) (u3 i F):=⟨(pX h9 PySem.F.slot_list_extend PySem.F.type_list_extend JQ ((an.a Z).pe) (qu m.out uz f) D U I f rfl).imp λσ H Q o=>by
 obtain⟨W,env,d,env',ok,q,k⟩:=o;unfold u3 at q;split at q;case h_2=>cases q
 rename_i p b;obtain⟨v,c,l,s,rfl,t,e,_⟩:=ok.slot i _ b;cases e1:F env with
 |none=>rw[e1] at q;cases q
 |some r =>
   obtain⟨u,env1⟩:=r;rw[e1,ac] at q;unfold Al at q;split at q;case h_2=>cases q
   rename_i ds g;split at q;case isFalse=>cases q
   rename_i V;cases q;refine⟨_,c,.inl ⟨rfl,_,.inl (.inl e)⟩,W,env,u,env1,ok,e1,λW1 n us H1 w y Y J z h=>?_⟩;obtain⟨K,j,l',vs,A,L,B,r⟩:=Y.slot i _ g;rw[c] at j;cases j;cases A;obtain⟨C,E⟩:=Y.turn g c (r.append h);refine⟨l,n,vs,us,rfl,rfl,B,z,?_,k _ _ _ (w.trans E) C .non⟩;rw[<-r.length,<-h.length];exact d7 V (by rw[i4];decide)⟩
def z7:D->Bool | .tup _=>false | .lst _=>false | .dct _ _=>false |_=>true
variable{d:D}
def a_.atom{D:kf}{O':Addr->Prop}(r:a_ K H O d v)(h:z7 d=true):a_ D H' O' d v:=by
 cases r with
 |non=>exact .non |bl b=>exact .bl b |int i=>exact .int i
 |str s=>exact .str s |tup _ _=>cases h
 |lst _ _ _=>cases h
 |klst _ _=>cases h
 |dct _ _=>cases h
 |exc a=>exact .exc a
structure qN (X:Cx) (G:Gd) (H0:Hp) (tg:Expr) (e:Expr) (f:FI):Prop where
 out:PI X tg e (tP X.K G H0 f)
def mI(i:Nat):FI:=λe=>match e[i]? with
 |some ↑(.ow ds)=>↑(ds,e) |some ⇑(.lst ds)=>↑(ds,e) |_=>none
def u5:la->la |some (.sh d)=>⇑d |some (.ow ds)=>⇑(.lst ds) |_=>none
def u6(fi:FI)(ix:ic)(tt:FT)(te:FE):FA:=λe=>(fi e).bind λr=>if bS r.1.length then(tw tt te (ix.map λj=>u5 (r.2.getD j none)) r.1).bind λds=>if ds.all z7=true then ↑(ds,r.2) else none else none
def L7(h:jJ X G H0 tg e fi):qN X G H0 tg e fi:=⟨h.out.imp λσ H R ⟨W,env,ds,env',ok,q,k⟩ =>
 ⟨W,env,ds,env',ok,q,λW' J H' st D I=>k W' J H' st D I.s⟩⟩
def E2(an:bR Nn Cn X)(I:‹Nn[i]?=↑x›):qN X G H0 tg (.Name x p1) (mI i):=⟨(CW ((an.a I).pe)).imp λσ H R b=>by
 obtain⟨W,env,ds,env',ok,q,k⟩:=b;unfold mI at q;split at q
 ·rename_i ds' U
  cases q;obtain⟨v,V,l,vs,rfl,g,Y,r⟩:=ok.slot i _ U;refine⟨_,V,l,rfl,⟨vs,.inl (.inl Y)⟩,k W _ H Step.refl ok ⟨λH' j d sm e=>?_,λH' sm=>⟨vs,.inl (.inl (sm _ _ Y)),by rw[r.length];exact b9 _⟩⟩⟩;obtain⟨w,Z,c⟩:=(ok.reps (Step.same sm) r).get e;have D:dI X.K H' l vs:=.inl (.inl (sm _ _ Y));exact⟨⟨vs,w,D,Z⟩,λy H'' ⟨e3,z⟩=>⟨e3,by have:=z vs D;rw[Z] at this;cases this;exact c⟩⟩
 ·rename_i ds' U
  cases q;obtain⟨v,V,r⟩:=ok.slot i _ U;obtain⟨l,vs,rfl,h,r⟩:=a_.lst_ r;have f:=DX ok h r;exact⟨_,V,l,rfl,⟨vs,h.sq⟩,k W _ H Step.refl ok f.s⟩
 ·cases q⟩
def L8(ok:Ok X.K G H0 W env σ H)(r:a_ X.K H (Ow G W) d v) :
  Ok X.K (gd λa=>G a\/H a=none) H dA (⇑d::ix.map λj=>u5 (env.getD j none)) (↑v::ix.map λj=>σ.getD j none) H:=by
 have up1:∀(a:Addr) (us:k6),Ow G W a->Rd H a (.lst us)->Ow (gd λa=>G a\/H a=none) dA a/\Rd H a (.lst us):=λa us o h=>⟨⟨.inl o.1,λz=>z⟩,h⟩;have I:∀ {d:D} {v:V},a_ X.K H (Ow G W) d v->a_ X.K H (Ow (gd λa=>G a\/H a=none) dA) d v:=λr=>r.mono (λ_ _ h=>h) up1;refine zO (pre:=[⇑d]) (σp:=[↑v]) ok (λa z=>.inr z) rfl (λi s z=>?_) (λU s u z r=>?_) rfl
 ·cases i with
  |zero=>cases z;exact⟨d,v,rfl,rfl,I r⟩
  |succ i=>cases z
 ·cases U <;> cases z
  ·exact⟨_,rfl,I r⟩
  ·obtain⟨l,vs,rfl,Y,Z,b⟩:=r
   exact⟨_,rfl,.lst ⟨.inl (ok.good l (ok.wl l Y).1),λz=>z⟩ (.inl Z) (b.mono (λ_ _ h=>h) up1)⟩
variable{te:FE}
def L9:∀σ H Q,iA X.K G H0 (u6 fi ix tt te) σ H Q->yw (tP X.K G H0 fi) ix (g_ X.K tt) (l_ X.K te) σ H Q :=
 Ee (cap:=u5) (pr:=λd=>z7 d=true) (λq=>by
  obtain⟨⟨ds,env1⟩,V,q⟩:=di.mp q;by_cases D:bS ds.length;case neg=>cases (b7 D).symm.trans q
  obtain⟨U,Y,q⟩:=di.mp ((aq D).symm.trans q);split at q;case isFalse=>cases q
  rename_i I;cases q;exact⟨ds,V,D,Y,ie.mp I⟩) λok r=>⟨_,L8 ok r,λr3 h=>r3.atom h⟩
def LA(an:bR Nn Cn X)(hi:qN X G H0 (.Name x px) a fi)(I:∀cl C s₂ H₂ fp G H0,bR (x::(aU Nn ix)) (aU Nn ix) (lr X x (aU Nn ix) sc cl C s₂ H₂ fp)->aT (lr X x (aU Nn ix) sc cl C s₂ H₂ fp) G H0 e te)(D:vg Nn Cn ix x sc=true:=by decide +kernel)(U:‹X.calm=true›)(V:∀v,foldedSetIterable a X.env v=pure v:=by intro _;rfl) :
  gI X G H0 (.ListComp e [⟨.Name x px,a,[],0⟩] sc pos) (kj fi ix cA te) :=
 ⟨(yY (zb an D) (λ_ _ _ _ _ _ _ _ _=>U) hi.out (λcl C s₂ H₂ fp _=>nP (X:=X) rfl) (λcl C s₂ H₂ fp _=>gC (X:=X) rfl (λG H0=>I cl C s₂ H₂ fp G H0 (wg D))) V).imp zP⟩
def LC(an:bR Nn Cn X)(V:eN Nn X)(hi:qN X G H0 (.Name x px) a fi)(Y:∀cl C s₂ H₂ fp G H0,bR (x::(aU Nn ix)) (aU Nn ix) (lr X x (aU Nn ix) sc cl C s₂ H₂ fp)->aT (lr X x (aU Nn ix) sc cl C s₂ H₂ fp) G H0 e te)(U:vg Nn Cn ix x sc=true:=by decide +kernel)(b:‹X.calm=true›)(I:‹Nn[i]?=↑y›)(Z:‹swapsWith (.ListComp e [⟨.Name x px,a,[],0⟩] sc pos) ↑(.Name y py) spos.line X.env=pure true›)(c:∀v,foldedSetIterable a X.env v=pure v:=by intro _;rfl) :
  PS X (.Assign [.Name y py] (.ListComp e [⟨.Name x px,a,[],0⟩] sc pos) spos) (fI (iA X.K G H0 (kj fi ix cA te)) (p8 i)) :=
 (pZ (zb an U) (λ_ _ _ _ _ _ _ _ _=>b) (V.t I).nd (V.t I).n (V.t I).l hi.out (λcl C s₂ H₂ fp _=>nP (X:=X) rfl) (λcl C s₂ H₂ fp _=>gC (X:=X) rfl (λG H0=>Y cl C s₂ H₂ fp G H0 (wg U))) Z (V.t I).f c).imp λD σ H h=>zP σ H _ h
def LD(an:bR Nn Cn X)(V:eN Nn X)(hi:qN X G H0 (.Name x px) a fi)(Y:∀cl C s₂ H₂ fp G H0,bR (x::(aU Nn ix)) (aU Nn ix) (lr X x (aU Nn ix) sc cl C s₂ H₂ fp)->gM (lr X x (aU Nn ix) sc cl C s₂ H₂ fp) G H0 cd tt)(Z:∀cl C s₂ H₂ fp G H0,bR (x::(aU Nn ix)) (aU Nn ix) (lr X x (aU Nn ix) sc cl C s₂ H₂ fp)->aT (lr X x (aU Nn ix) sc cl C s₂ H₂ fp) G H0 e te)(U:vg Nn Cn ix x sc=true:=by decide +kernel)(c:‹X.calm=true›)(I:‹Nn[i]?=↑y›)(b:‹swapsWith (.ListComp e [⟨.Name x px,a,[cd],0⟩] sc pos) ↑(.Name y py) spos.line X.env=pure true›)(d:∀v,foldedSetIterable a X.env v=pure v:=by intro _;rfl) :
  PS X (.Assign [.Name y py] (.ListComp e [⟨.Name x px,a,[cd],0⟩] sc pos) spos) (fI (iA X.K G H0 (u6 fi ix tt te)) (p8 i)) :=
 (pZ (zb an U) (λ_ _ _ _ _ _ _ _ _=>c) (V.t I).nd (V.t I).n (V.t I).l hi.out (λcl C s₂ H₂ fp _=>mv (X:=X) rfl (λG H0=>Y cl C s₂ H₂ fp G H0 (wg U))) (λcl C s₂ H₂ fp _=>gC (X:=X) rfl (λG H0=>Z cl C s₂ H₂ fp G H0 (wg U))) b (V.t I).f d).imp λD σ H h=>L9 σ H _ h
def nT(i:Nat):FE:=λe=>match e[i]? with
 |some ↑(.ow ds)=>(dL ds).map λD=>(.int D.sum,e) |some ⇑(.lst ds)=>(dL ds).map λD=>(.int D.sum,e) |_=>none
def E3(an:bR Nn Cn X)(Z:‹X.calm=true›)(V:Bn X "sum":=by walk_at "b")(D:‹Nn[i]?=↑x›)(Y:‹starEach [.Name x p1] X.env=(false,eval (.Name x p1) X.env)::starEach [] X.env›):aT X G H0 (.Call (.Name "sum" p') [.Name x p1] [] pos) (nT i) :=
 ⟨(nG (DV Z) V.g V.m boot_sum (qu ((an.a D).pe) uz Y) (by decide) (by decide) Y rfl).imp λσ H Q b=>by
  obtain⟨W,env,d,env',ok,q,k⟩:=b;unfold nT at q;split at q
  ·rename_i ds I
   cases e2:dL ds with
   |none=>rw[e2] at q;cases q
   |some ns =>
   rw[e2] at q;cases q;cases tK e2;obtain⟨v,U,l,vs,rfl,e,c,r⟩:=ok.slot i _ I;cases tL r;exact⟨_,U,l,ns,rfl,.inl (.inl c),k W _ H Step.refl ok ↥_⟩
  ·rename_i ds I
   cases e2:dL ds with
   |none=>rw[e2] at q;cases q
   |some ns =>
   rw[e2] at q;cases q;cases tK e2;obtain⟨v,U,r⟩:=ok.slot i _ I;obtain⟨l,us,rfl,h,r⟩:=a_.lst_ r;cases tL r;exact⟨_,U,l,ns,rfl,h.sq,k W _ H Step.refl ok ↥_⟩
  ·cases q⟩
def E4(K:kf)(G:Gd)(H0:Hp)(f:FA):TA:=λσ H Q=>DP K G H0 f (λW env ds env' =>
 ∀W' vs H',Step W H W' H'->Ok K G H0 W' env' σ H'->aK K H' G ds vs->Q vs H') σ H
structure u7 (X:Cx) (G:Gd) (H0:Hp) (es:i0) (f:FA):Prop where
 out:PA X es (E4 X.K G H0 f)
def LF(h:fG X G H0 es F):u7 X G H0 es F:=⟨h.out.imp λσ H Q ⟨W,env,ds,env',ok,q,k⟩ =>
 ⟨W,env,ds,env',ok,q,λW' vs H' st D r=>k W' vs H' st D (r.mono (λ_ _ h=>h) λa us o h=>⟨o.1,h⟩)⟩⟩
def u8(i:Nat)(F:FA):FA:=λe=>match e[i]? with
 |some ↑(.ow _)=>(F e).bind λq=>match q.2[i]? with |some ↑(.ow ds)=>↑(.lst ds::q.1,q.2) |_=>none
 |_=>none
def LG(c:u7 X G H0 es F)(an:bR Nn Cn X)(I:‹Nn[i]?=↑x›)(d:‹starEach (.Name x p1::es) X.env=(false,eval (.Name x p1) X.env)::starEach es X.env›):u7 X G H0 (.Name x p1::es) (u8 i F) :=
 ⟨(qu ((an.a I).pe) c.out d).imp λσ H Q e=>by
  obtain⟨W,env,ds,env',ok,q,k⟩:=e;unfold u8 at q;split at q;case h_2=>cases q
  rename_i f U;obtain⟨v,Z,l,g,rfl,j,m,_⟩:=ok.slot i _ U;cases e1:F env with
  |none=>rw[e1] at q;cases q
  |some r =>
    obtain⟨V,env1⟩:=r;rw[e1,ac] at q;split at q;case h_2=>cases q
    rename_i n Y;cases q;refine⟨_,Z,W,env,V,_,ok,e1,λW1 vs H1 p D s=>?_⟩;obtain⟨A,b,l',t,u,w,y,z⟩:=D.slot i _ Y;rw[Z] at b;cases b;cases u;exact k W1 _ H1 p D (.cons (.lst (D.good l (D.wl l w).1) (.inl y) (z.mono (λ_ _ h=>h) λa us o h=>⟨o.1,h⟩)) s)⟩
def qO(m:k7->k8)(F:FA):FE:=λe=>(F e).bind λr=>(m r.1).bind λd=>if z7 d=true then ↑(d,r.2) else none
variable{E:XK}
def LH:∀σ H Q,tD X.K G H0 (qO m F) σ H Q->sZ (cH X.K m) [] E (E4 X.K G H0 F) σ H Q:=λσ H Q U=>by
 obtain⟨W,env,d,env',ok,q,k⟩:=U;unfold qO at q;cases e1:F env with
 |none=>rw[e1] at q;cases q
 |some r =>
   obtain⟨ds,env1⟩:=r;rw[e1,ac] at q;cases e2:m ds with
   |none=>rw[e2] at q;cases q
   |some d' =>
     rw[e2,ac] at q;split at q;case isFalse=>cases q
     rename_i D;cases q;refine⟨W,env,ds,_,ok,e1,λW1 vs H1 V I p1=>?_⟩;show cH X.K m (vs++[]) H1 Q E;rw[du];exact⟨G,ds,_,p1,e2,λv H2 sm Y=>k W1 v H2 (V.trans (Step.same sm)) (I.same sm) (Y.atom D)⟩
def LI{jr:Nat}(c:bO X.prog X.w X.K X.mg X.base bQ x k (cH X.K m))(V:bC jr X.A)(Y:u7 X G H0 (e::es) F)(D:k<=jr:=by decide)(Z:Gl X x:=by walk_at "g")(a:‹starEach (e::es) X.env=(false,eval e X.env)::starEach es X.env›)(I:‹(backTo pos (starEach es X.env)).any (·.1)=false›) :
  aT X G H0 (.Call (.Name x p') (e::es) [] pos) (qO m F):=let ⟨_,_,_,b,d,f,g,U⟩:=c;⟨(yG b (V.mono D) Z d f g .nil yP Y.out U a I).imp LH⟩
variable{xs:h6}
def Am(h:sc.names.lookup x=some .globalImplicit):Gl (nk X xs N' sc cl C s H fp) x:=z_ h
def qP(N cs:h6)(ix:ic)(xs:h6)(sc:Scope):Bool:=decide ((xs++aU N ix).Nodup) && decide (sc.kind=.function) && xs.all (λy=>sc.names.lookup y==some .local) && decide (∀z∈sc.names,z.2≠.cell) && decide (∀z∈sc.names,z.2=.local->sc.names.lookup z.1=some .local) && decide (∀z∈sc.names,z.2=.free->z.1∈aU N ix) && (aU N ix).all (λu=>(sc.names.lookup u==some .free) && cs.elem u) && (xs++aU N ix).all iW
variable{cs:h6}
def LJ(hA:bR N cs X)(h:qP N cs ix xs sc=true):DH X xs (aU N ix) ix sc:=by
 unfold qP at h;simp only[fo,jf,ie] at h;obtain⟨⟨⟨⟨⟨⟨⟨h1,h2⟩,I⟩,U⟩,V⟩,Y⟩,D⟩,_⟩:=h;exact⟨by rw[hA.n];rfl,h1,h2,λy Z=>tx (I y Z),U,V,λz a b=>hA.ck z.1 (List.mem_of_elem_eq_true (D z.1 (Y z a b)).2),λu c=>tx (D u c).1⟩
def E5(h:qP N cs ix xs sc=true):bR (xs++aU N ix) (aU N ix) (nk X xs (aU N ix) sc cl C s H fp)/\eN xs (nk X xs (aU N ix) sc cl C s H fp):=by
 unfold qP at h;simp only[fo,jf,ie] at h;obtain⟨⟨⟨⟨⟨⟨⟨h1,h2⟩,D⟩,Y⟩,Z⟩,a⟩,I⟩,U⟩:=h;refine⟨⟨rfl,λi x e=>⟨e,?_,(wb (U x (bc e))).1,(wb (U x (bc e))).2⟩,λu V=>?_⟩,⟨λi x e=>⟨h1,?_,.inl (jp (tx (D x (bc e)))),.inr (jp (tx (D x (bc e))))⟩⟩⟩
 ·rcases dy.mp (bc e) with hm |hm
  ·exact .inl (jp (tx (D x hm)))
  ·exact .inr (nI (tx (I x hm).1))
 ·exact nI (env:=X.env) (tx (I u V).1)
 ·show(xs++aU N ix)[i]?=↑x
  rw[bg (aj.mp e).1];exact e
def wd:ic->k6->St->St
 |i::ix,v::vs,σ=>wd ix vs (σ.set i ↑v)
 |_,_,σ=>σ
def E6:∀(ix:ic) (vs:k6) (a b:St),(∀i∈ix,i<a.length)->wd ix vs (a++b)=wd ix vs a++b/\(wd ix vs a).length=a.length
 | [],vs,a,b,_=>by simp[wd] |i::ix,[],a,b,_=>by simp[wd]
 |i::ix,v::vs,a,b,h=>by
   have hi:=h i bi;have D:=E6 ix vs (a.set i ↑v) b λj I=>by rw[d9];exact h j (ay _ I)
   rw[wd,wd,List.set_append_left _ _ hi,D.1];exact⟨rfl,by rw[D.2,d9]⟩
def E7{K:kf}{G:Gd}{W:Addr->Prop}{H0 H:Hp}:∀(ix:ic) (ds:k7) (vs:k6) (env:DE0) (σ:St) (Q:St->Hp->Prop),Ok K G H0 W env σ H->aK K H (Ow G W) ds vs->ds.length=ix.length ->
  (Ok K G H0 W (ql ix ds env) (wd ix vs σ) H->Q (wd ix vs σ) H)->jD ix vs σ H Q
 | [],ds,vs,env,σ,Q,ok,r,hl,k=>by
   cases r with
   |nil=>exact⟨rfl,k ok⟩ |cons _ _=>cases hl
 |i::ix,ds,vs,env,σ,Q,ok,r,hl,k=>by
   cases r with
   |nil=>cases hl
   | @cons d v ds vs r0 r =>
     exact⟨v,vs,rfl,E7 ix ds vs _ _ Q (ok.set r0) r (oh hl) k⟩
def mJ(tt:FT)(te:FE)(n:Nat)(base:DE0):k7->Option k7
 | []=>↑[] |d::r=>(mD (List.range n) d (List.replicate n none++base)).bind λe=>(tt e).bind λb=>if b.1=true then(te b.2).bind λv=>(mJ tt te n base r).map (v.1::·) else mJ tt te n base r
def nU(n:Nat)(fi:FI)(ix:ic)(tt:FT)(te:FE):FA:=λe=>(fi e).bind λr=>if bS r.1.length then(mJ tt te n (ix.map λj=>gN (r.2.getD j none)) r.1).map λds=>(ds,r.2) else none
def LK(h:jJ X G H0 tg e fi):kX X G H0 tg e fi:=⟨h.out.imp λσ H R ⟨W,env,ds,env',ok,q,k⟩ =>
 ⟨W,env,ds,env',ok,q,λW' J H' st I U=>k W' J H' st I ⟨λD H2 i d s2 e=>⟨(U.go D H2 i d s2 e).1,λx V y=>by
  obtain⟨rfl,r⟩:=(U.go D H2 i d s2 e).2 x V y;exact⟨bB.refl _,r⟩⟩,λD H2 s2=>U.stop D H2 s2⟩⟩⟩
def LL{σp:St}(D:σp.length=n)(ok:Ok X.K G H0 W env σ H) :
  Ok X.K (gd λa=>Ow G W a\/H a=none) H dA (List.replicate n none++ix.map λj=>gN (env.getD j none)) (σp++ix.map λj=>σ.getD j none) H:=by
 refine zO ok (λa z=>.inr z) (by rw[f7,D]) (λi s z=>?_) (D_ λr=>r.mono (λ_ _ h=>h) λa us o h=>⟨⟨.inl o,λz=>z⟩,h⟩) rfl;cases (List.mem_replicate.mp (bc z)).2
def LM:∀σ H Q,iA X.K G H0 (nU n fi ix tt te) σ H Q->DE n (Eh X.K G H0 fi) (pI X.K n (jD (List.range n))) ix (g_ X.K tt) (l_ X.K te) σ H Q:=λσ H Q z=>by
 obtain⟨W,env,d,env',ok,q,k⟩:=z;obtain⟨⟨ds,env1⟩,N,q⟩:=di.mp q;by_cases f:bS ds.length;case neg=>cases (b7 f).symm.trans q
 obtain⟨A,O,q⟩:=gf.mp ((aq f).symm.trans q);cases q;refine⟨W,env,ds,_,ok,N,λW1 J H1 P g B=>⟨jV X.K (Ow G W1) H1 ds d (mJ tt te n (ix.map λj=>gN (env1.getD j none))),⟨ds.length,d,[],rfl,ib _,bB.refl _,.nil,b9 _,O,rfl⟩,λi m H' ys z=>?_⟩⟩;obtain⟨rest,C,R,b,sm,E,hd,c,F⟩:=z;subst R;have V:=g.same sm;by_cases D:i<ds.length
 ·rw[ij D] at c
  obtain⟨S,T⟩:=B.go W1 H' i ds[i] (Step.same sm) (am D);refine .inr ⟨S,λx l y σp I=>?_⟩;obtain⟨Y,L⟩:=T x l y;have U:=V.same Y;have p:=LL (ix:=ix) I U;obtain⟨aa,Z,c⟩:=di.mp c;unfold mD at Z;generalize ds[i]=dn at L Z;split at Z;case h_2=>cases Z
  rename_i r;split at Z;case isFalse=>cases Z
  rename_i e;cases Z;obtain⟨s,vs,rfl,ht,M⟩:=L.tup_;refine⟨s,vs,rfl,eX.of ht,by rw[<-M.length,e,jg],E7 (List.range n) r vs _ _ _ p (M.mono (λ_ _ h=>h) λa us o h=>⟨⟨.inl o,λz=>z⟩,h⟩) e λt=>?_⟩;obtain⟨u,v⟩:=E6 (List.range n) vs σp (ix.map λj=>σ.getD j none) λj hj=>by rw[I];exact gv.mp hj
  exact⟨wd (List.range n) vs σp,by rw[v,I],u,Ec f D t U (sm.trans Y) (V.reps (Step.same Y) E) hd F c λr3 _=>r3.mono (λ_ _ h=>h) λa us o h=>⟨o.1.elim (λz=>z) λz=>⟨U.good a (U.stay.free z),λw=>by obtain⟨_,us,q⟩:=U.wl a w;rw[z] at q;cases q⟩,h⟩⟩
 ·exact .inl ⟨by cases l7 b (js D);exact B.stop W1 H' (Step.same sm),Ed f b D V P sm E hd F c rfl k⟩
def E8(xs:h6)(an:bR Nn Cn X)(hi:kX X G H0 (.Tuple es k p1) a fi)(Y:∀cl C s₂ H₂ fp,eN xs (nk X xs (aU Nn ix) sc cl C s₂ H₂ fp)->jP (nk X xs (aU Nn ix) sc cl C s₂ H₂ fp) es (jD (List.range xs.length)))(I:∀cl C s₂ H₂ fp G H0,bR (xs++aU Nn ix) (aU Nn ix) (nk X xs (aU Nn ix) sc cl C s₂ H₂ fp)->aT (nk X xs (aU Nn ix) sc cl C s₂ H₂ fp) G H0 e te)(D:qP Nn Cn ix xs sc=true:=by decide +kernel)(V:‹X.calm=true›)(Z:∀cl C s₂ H₂ fp,(assignEach es (nk X xs (aU Nn ix) sc cl C s₂ H₂ fp).env).length=xs.length:=by intros;rfl)(U:∀cl C s₂ H₂ fp,(assignEach es (nk X xs (aU Nn ix) sc cl C s₂ H₂ fp).env).findIdx? (·.1)=none:=by intros;rfl)(b:∀v,foldedSetIterable a X.env v=pure v:=by intro _;rfl) :
  gI X G H0 (.ListComp e [⟨.Tuple es k p1,a,[],0⟩] sc pos) (nU xs.length fi ix cA te) :=
 ⟨(Kh (LJ an D) V hi.out (λcl C s₂ H₂ fp=>nP (X:=X) rfl) (λcl C s₂ H₂ fp=>gC (X:=X) rfl (λG H0=>I cl C s₂ H₂ fp G H0 (E5 D).1)) (λcl C s₂ H₂ fp=>CS (X:=nk X xs (aU Nn ix) sc cl C s₂ H₂ fp) V (Y cl C s₂ H₂ fp (E5 D).2) (Z cl C s₂ H₂ fp) (U cl C s₂ H₂ fp)) b).imp LM⟩
section
variable (P:Program) (w:World)
end
section
variable {X:Cx} {CX:iP} {k:Nat} {f C:Addr} {fd:FuncData} {ps ks:h6} {sp:Sp} {E:XK} {x m:Str} {p pos apos kpos:Pos} {e o:Expr} {es:i0} {kws:List Keyword} {te ta:TE} {t tk:TA} {nm:ka}
variable {g:h7->h7->h7} {gV:k6->k6->k6}
end
section
variable {κ:Type} [DecidableEq κ]
def fQ(kvs:List (κ×V))(k:κ):Option V:=(kvs.find? λD=>decide (D.1=k)).map (·.2)
def E9{p:κ×V}{r:List (κ×V)}{k:κ}(e:p.1=k):fQ (p::r) k=↑p.2:=by simp[fQ,ku,e]
def EA{p:κ×V}{r:List (κ×V)}{k:κ}(e:¬p.1=k):fQ (p::r) k=fQ r k:=by simp[fQ,ku,e]
def eO.getD{o:Option V}{u:h8}{d:V}{d':Value}(r:eO o u)(D:RelV d d'):RelV (o.getD d) (u.getD d'):=by
 cases o with
 |none=>cases u with
   |none=>exact D |some _=>exact(show False from r).elim
 |some _=>cases u with
   |none=>exact(show False from r).elim |some _=>exact r
def KV.val{kvs:List (κ×V)}{vs:List (κ×Value)}(r:KV kvs vs)(k:κ):eO (fQ kvs k) (valueAt vs k):=by
 unfold KV at r;induction r with
 |nil=>exact True.intro | @cons p q ps qs h t ih =>
   obtain⟨h1,h2⟩:=h;by_cases e:p.1=k
   ·have e':q.1=k:=h1.symm.trans e
    have b:valueAt (q::qs) k=↑q.2:=by simp[valueAt,ku,e']
    rw[E9 e,b];exact h2
   ·have e':¬q.1=k:=λz=>e (h1.trans z)
    have b:valueAt (q::qs) k=valueAt qs k:=by simp[valueAt,ku,e']
    rw[EA e,b];exact ih
def KV.length{kvs:List (κ×V)}{vs:List (κ×Value)}(r:KV kvs vs):kvs.length=vs.length:=Paired.length r
end
variable{u:Value}
def EB{k:dU}(r:RelV (kV k) u):(re P w).is k u=true:=by
 cases k with
 |inl i=>obtain⟨t,e⟩:=(show ∃t,u=Value.int i t from r);subst e;exact CL P w i t
 |inr x=>obtain⟨t,e⟩:=(show ∃t,u=Value.str x t from r);subst e;exact H_ P w x t
def EC{P:Program}{w:World}:∀ {ks:List dU} {us:h7},aP (ks.map kV) us->ItemsAre (re P w) ks us
 | [],_,r=>by rw[dm] at r;cases r;exact .nil
 |k::ks,_,r=>by
   rw[bq] at r;cases r with
   |cons h t=>exact .cons (EB h) (EC t)
abbrev KT(H:Hp):List (List dU×V)->List (List dU×Addr×Value)->Prop:=Paired λp q=>p.1=q.1/\H q.2.1=↑(.tup (p.1.map kV))/\RelV p.2 q.2.2
variable{kvs:List (List dU×V)}
def KT.val{xs:List (List dU×Addr×Value)}(r:KT H kvs xs)(k:List dU):eO (fQ kvs k) ((atKey xs k).map (·.2)):=by
 induction r with
 |nil=>exact True.intro | @cons p q ps qs h t ih =>
   obtain⟨h1,_,h2⟩:=h;by_cases e:p.1=k
   ·have e':q.1=k:=h1.symm.trans e
    have b:atKey (q::qs) k=↑q.2:=by simp[atKey,ku,e']
    rw[E9 e,b];exact h2
   ·have e':¬q.1=k:=λz=>e (h1.trans z)
    have b:atKey (q::qs) k=atKey qs k:=by simp[atKey,ku,e']
    rw[EA e,b];exact ih
variable{a:Addr}
def ED{u:HO}(ok:e_ P w H h)(e:Rd H a u):bP P w H h a u:=e.ok ok
def EE{kvs:List (dU×V)}(ok:e_ P w H h)(e:Rd H a (.dK kvs)):kvs.length<=sizeLine/\(a==sysModules)=false/\∃vs,KV kvs vs/\h.DictOf (re P w) a vs :=
 show bP P w H h a (.dK kvs) from ED ok e
def EF{ks:List dU}(ok:e_ P w H h)(e:H a=↑(.tup (ks.map kV))):(tupleKind (re P w)).is h ks a:=by
 obtain⟨_,its,r,o,h1,h2,n,D⟩:=(show bP P w H h a (.tup (ks.map kV)) from ok a _ e);exact⟨o,its.toArray,n,h1,h2,D,by simpa using EC r⟩
def EG(ok:e_ P w H h)(e:Rd H a (.dT kvs)):kvs.length<=sizeLine/\(a==sysModules)=false /\
  ∃xs,KT H kvs xs/\h.DictOfH (tupleKind (re P w)) a xs:=by
 obtain⟨z,y,xs,r,o,es,D,h1,h2,I,U,Y⟩:=(show bP P w H h a (.dT kvs) from ED ok e);refine⟨z,y,xs,r,o,es,D,h1,h2,I,U,λx hx=>?_,Y⟩;have all:∀ {l:List (List dU×V)} {m:List (List dU×Addr×Value)},KT H l m->∀x∈m,(tupleKind (re P w)).is h x.1 x.2.1:=by
  intro l m q;induction q with
  |nil=>intro x hx;exact nomatch hx
  | @cons p q ps qs hq t ih =>
    intro x hx;rcases cr.mp hx with e |hx
    ·subst e
     exact EF ok (by rw[<-hq.1];exact hq.2.1)
    ·exact ih x hx
 exact all r x hx
def iE(H:Hp)(a:Addr)(y:V)(r:Option V):Prop :=
 (∃kvs k,Rd H a (.dK kvs)/\y=kV k/\r=fQ kvs k)\/∃kvs k b,Rd H a (.dT kvs)/\y=.ref b/\H b=↑(.tup (k.map kV))/\r=fQ kvs k
protected def iE.k{H:Hp}{a:Addr}{kvs:List (dU×V)}{k:dU}(e:H a=↑(.dK kvs)):iE H a (kV k) (fQ kvs k):=.inl ⟨kvs,k,.inl e,rfl,rfl⟩
def Inv.big(I:Inv X pins σ H s):sysModules<s.heap.objs.size:=by
 have h:mainGlobals<s.heap.objs.size:=(I.mod.glob.keeps I.bk).lt;exact ui (by decide) h
variable{y:V}{E:Value->Shared->Prop}
def LN(f:A.units+1<cLine)(I:Inv X pins σ H s)(g:iE H a y ↑v)(d:RelV y u)(h:∀V s',Inv X pins σ H s'->RelV v V->Q V s') :
  wpAny (model X.prog X.w) A (getItem (.ref a) u) Q E s:=by
 rcases g with⟨kvs,k,e,Y,l⟩ | ⟨kvs,k,b,e,Y,eb,l⟩
 ·subst Y
  obtain⟨z,hd,vs,D,dd⟩:=EE I.hok e;obtain⟨V,Z,U⟩:=eO.some_of (v:=v) (o:=valueAt vs k) (by rw[l];exact D.val k);exact wpAny_getItem_of (EB d) dd.mapOf Z (h V _ (I.tok _) U)
 ·subst Y
  cases (show u=Value.ref b from d);obtain⟨z,hd,xs,D,dd⟩:=EG I.hok e;obtain⟨V,Z,U⟩:=eO.some_of (v:=v) (o:=(atKey xs k).map (·.2)) (by rw[l];exact D.val k);obtain⟨p,i,c⟩:=gf.mp Z;refine wpAny_getItem_heap (tupleKind_room_in1 f) (EF I.hok eb) dd i ?_;rw[c];exact h V _ (I.tok _) U
def LO{h':Heap}{kvs:List (dU×V)}{vs:List (dU×Value)}(z:kvs.length<=sizeLine)(hd:(a==sysModules)=false)(D:KV kvs vs)(dd:h'.DictOf (re P w) a vs) :
  bP P w H' h' a (.dK kvs):=⟨z,hd,vs,D,dd⟩
def mK(i:Expr):Prop:=∀D I,subscripted i false D I=operate [D,I] (getItem D I)
def LP{env:Env}{value D:Expr}{T id:String}(a:typeLookup (.type T) "__getitem__" = pure ↑(.builtin id))(b:mK D)(h:wpAny (model prog w) A (eval value env) (λo U=>wpAny (model prog w) A (eval D env) (λi s₂=>s₂.TypeIs o T/\wpAny (model prog w) A (getItem o i) Q E s₂) E U) E s) :
  wpAny (model prog w) A (eval (.Subscript value D pos) env) Q E s:=by
 refine Subscript_ (jd h (λo U h₁=>jd h₁ (λi s₂ I=>?_) λ_ _ x=>x) λ_ _ x=>x);obtain⟨hT,I⟩:=I;unfold subscriptTail;refine ax ?_;rw[getitemInPython_of_ne hT.not_modules];refine ax (wpAny_specialOf hT a ?_);have Y:wpAny (model prog w) A (subscripted D false o i) (λr V=>wpAny (model prog w) A (letTemporaryGo value o r >>= λ_=>pure r) Q E V) E s₂:=by
  rw[b o i];exact wpAny_operating (jd I (λr V Z=>ax (wpAny_letTemporaryGo (dg Z))) λ_ _ x=>x)
 first
  |exact dg (ax Y)
  |exact ax (dg (ax Y))
  |exact ax Y
variable{o:Expr}
def LQ{o:Option V}(I:Inv X pins σ H s)(g:iE H a y o):s.TypeIs (.ref a) "dict":=by
 rcases g with⟨kvs,k,e,_,_⟩ | ⟨kvs,k,b,e,_,_,_⟩
 ·obtain⟨_,_,vs,_,dd⟩:=EE I.hok e
  exact dd.typeIs
 ·obtain⟨_,_,xs,_,dd⟩:=EG I.hok e
  exact dd.typeIs
def LR(td ty:TE):TE:=λσ H Q=>td σ H λx H1=>ty σ H1 λy H2=>∃a v,x=.ref a/\iE H2 a y ↑v/\Q v H2
variable{i:Expr}{td ty:TE}
def LS(Y:X.A.units+1<cLine)(Z:PE X o td)(hi:PE X i ty)(b:mK i):PE X (.Subscript o i pos) (LR td ty):=by
 intro pins s σ H Q I h;refine LP PySem.F.slot_dict_getitem.lookup b (bI (Z pins s σ H _ I h) λu c D=>?_);obtain⟨x,H1,d,e,f⟩:=D;refine bI (hi pins c σ H1 _ d f) λm s2 D=>?_;obtain⟨y,H2,V,j,a,v,ex,g,k⟩:=D;subst ex;obtain rfl:u=Value.ref a:=e;exact⟨LQ V g,LN Y V g j λn p l U=>⟨v,H2,l,U,k⟩⟩
structure M1 (X:Cx) (o:Expr) (m:Str) (apos:Pos) (e:Expr) (cpos:Pos):Prop where
 base:attributeBase o m X.env (eval o X.env)=eval o X.env
 few:((backTo cpos (starEach [e] X.env)).all (λx=>!x.1) && (backToKw cpos (keywordEach [] X.env)).all (λx=>x.1.isSome)
  && decide (([e]:i0).length+([]:List Keyword).length+(if ([]:List Keyword).isEmpty then 0 else 1)<30))=true
 line:(apos.endLine==cpos.line)=true
 trees:backTo cpos (starEach [e] X.env)=[(false,eval e X.env)]
structure M2 (X:Cx) (o:Expr) (m:Str) (apos:Pos) (e f:Expr) (cpos:Pos):Prop where
 base:attributeBase o m X.env (eval o X.env)=eval o X.env
 few:((backTo cpos (starEach [e,f] X.env)).all (λx=>!x.1) && (backToKw cpos (keywordEach [] X.env)).all (λx=>x.1.isSome)
  && decide (([e,f]:i0).length+([]:List Keyword).length+(if ([]:List Keyword).isEmpty then 0 else 1)<30))=true
 line:(apos.endLine==cpos.line)=true
 trees:backTo cpos (starEach [e,f] X.env)=[(false,eval e X.env),(false,eval f X.env)]
end L2
namespace Att
open PySem PySem.W PySem.Calls PyProof.Rows
end Att
namespace L2
open PySem PySem.Spec PyProof.Rows
section
variable {κ:Type} [DecidableEq κ]
end
def LU:typeLookup (.type "list") "keys" = pure none:=by rw[typeLookup_type,builtinLookup_eq_fast];kernel_rfl
variable{n:Nat}{sl:Array h8}{prog:Program}{w:World}{A:Around}{E:Value->Shared->Prop}{s:Shared}{a:Addr}
theorem LV{Q:h8->Shared->Prop}{its:k4}(Y:A.handled=none)(V:s.heap.get? a=↑⟨.type "list",none,.seq its n,sl⟩)(Z:∀h' tk,(∀b o,s.heap.get? b=↑o->h'.get? b=↑o)->Q none { s with heap:=h',toks:=tk }):wpAny (model prog w) A (getAttr? (.ref a) "keys") Q E s:=by
 obtain⟨U,g,d,tk,os⟩:=s;have hT:∀D,(⟨U,g,d,D,os⟩:Shared).TypeIs (.ref a) "list":=λ_=>⟨_,V,rfl⟩;have f:=sub_AttributeError;have h:=F.slot_list_getattribute.lookup;have i:=F.slot_list_getattribute.bind (.ref a);have j:=am_list_getattr_none;unfold getAttr? getAttrBy? getAttrBy;repeat (any_goals (first |assumption |exact hT _ |wp_step))
 refine j5 (mr (R:=λr s'=>∃h' D e,r=.error (.ref e)/\Heap.NewAttrErr U h' e (.ref a) "keys"/\s'=⟨h',g,d,D,os⟩) F.slot_list_getattribute.plain am_entry_list_getattribute (F.slot_list_getattribute.check _ _ _ _ _ _ _ _ (hT _) (F.args_list_getattribute_2 _ _)
  (meets_getattribute_miss_list a its n sl "keys" tk LU (by decide) (by size_fits) prog w A (λr s'=>∃h' D e,r=.error (.ref e)/\Heap.NewAttrErr U h' e (.ref a) "keys"/\s'=⟨h',g,d,D,os⟩) _ ⟨V,Y,λh' D e I=>⟨h',D,e,rfl,I,rfl⟩⟩))) λr s' c=>?_
 obtain⟨h',D,e,rfl,I,rfl⟩:=c;obtain⟨t',k,l⟩:=I.there;show wpAny _ _ (getattributeRaised _ _ _ _ _ _ _) _ _ _;unfold getattributeRaised;repeat (any_goals (first |assumption |wp_step))
 exact Z h' D I.keeps
def EH:entryFor table "dict.update.loop" = ↑Builtin.«dict.update.loop»:=entryFor_of_tree (by kernel_rfl)
abbrev nV:=Addr×Int×Tok×Value
def EI{d it l:Addr}{R:Result->Shared->Prop}(all:List nV)(nd:(all.map (·.2.1)).Nodup)(U:all.length<=sizeLine)(u:it≠l)(f:d≠it)(v:d≠l)(g:∀p∈all,p.1≠it/\p.1≠d) :
  ∀(I pre:List nV) (A:Around) (s:Shared),all=pre++I->A.handled=none->s.heap.IsListIter it l pre.length->s.heap.IsList l (all.map λp=>Value.ref p.1).toArray->(∀p∈all,s.heap.IsTuple p.1 #[.int p.2.1 p.2.2.1,p.2.2.2]) ->
   s.heap.DictOf (re prog w) d (pre.map λp=>(Sum.inl p.2.1,p.2.2.2)) ->
   (∀h' tk,h'.DictOf (re prog w) d (all.map λp=>(Sum.inl p.2.1,p.2.2.2))->(∀b o,b≠d->b≠it->s.heap.get? b=↑o->h'.get? b=↑o)->R (.ok (.ret .none)) { s with heap:=h',toks:=tk }) ->
   codeAny (model prog w) A (.builtin "dict.update.loop" ⟨[.ref d,.ref it,rawInt pre.length,.none],[]⟩) R s
 | [],pre,A,s,he,hh,hit,hl,ht,hd,hR=>by
   refine rg EH ?_;rw[Around.under_plain rfl rfl];unfold Builtin.«dict.update.loop»;refine ax (tf hh hit hl ?_ λh' y=>?_)
   ·rw[he];simp
   ·exact ax (dg (dg (hR h' s.toks (by rw[he,du];exact hd.extBut y f) λb o _ H e=>y b o H e)))
 |p::I,pre,A,s,he,hh,hit,hl,ht,hd,hR=>by
   refine rg EH ?_;rw[Around.under_plain rfl rfl];unfold Builtin.«dict.update.loop»;have h:p∈all:=by rw[he];simp
   refine ax (qw hit hl (x:=.ref p.1) ?_ λh' V Y=>?_)
   ·rw[he];simp
   ·have J:p∈all:=h
    obtain⟨o,B,K,m,i⟩:=(ht p h).extBut Y.extBut (g p h).1;have j:h'.DictOf (re prog w) d (pre.map λp=>(Sum.inl p.2.1,p.2.2.2)):=hd.extBut Y.extBut f;have Z:¬((pre.map λp:nV=>((Sum.inl p.2.1:dU),p.2.2.2)).any λC=>decide (C.1=Sum.inl p.2.1))=true:=by
     intro z;obtain⟨C,k,e⟩:=List.any_eq_true.mp z;obtain⟨q,a,rfl⟩:=fb.mp k;have e:q.2.1=p.2.1:=by simpa using e
     rw[he,bw,bq] at nd;exact(m7.mp nd).2.2 _ (fb.mpr ⟨q,a,rfl⟩) _ bi e
    have n:stored (pre.map λp:nV=>((Sum.inl p.2.1:dU),p.2.2.2)) (Sum.inl p.2.1) p.2.2.2=(pre++[p]).map λp=>(Sum.inl p.2.1,p.2.2.2):=by
     unfold stored;rw[b7 Z,bw];rfl
    refine ax (gk (ax (wpAny_tryCatch ?_)));unfold Builtin.Dict.pairItems;refine ax (wpAny_typeOf (T:="tuple") ⟨o,B,K⟩ ?_);rw[aq (by decide)];refine ax (wpAny_seqItems B i (dg ?_));show wpAny _ _ (holding [.int p.2.1 p.2.2.1,p.2.2.2] (dictSet d (.int p.2.1 p.2.2.1) p.2.2.2)) _ _ _;refine gk (wpAny_dictSet_pairs (knd:=re prog w) (CL prog w p.2.1 p.2.2.1) j (λh2 c D=>?_) (by rw[ah];rw[he,ak] at U;omega));rw[n] at c;refine dg ⟨Code.quiet_builtin _ (by decide +kernel),?_⟩;have E:=EI all nd U u f v g I (pre++[p]) A { s with heap:=h2,toks:=s.toks+1 } (by rw[he];simp) hh
     (by rw[ak];exact V.extBut D.extBut f.symm) ((hl.extBut Y.extBut u.symm).extBut D.extBut v.symm) (λq a=>((ht q a).extBut Y.extBut (g q a).1).extBut D.extBut (g q a).2) c
     (λL tk r k3=>hR L tk r λb t F G e=>k3 b t F G (D.extBut b t F (Y.extBut b t G e)))
    rw[ak,ft] at E;exact E
theorem LW{l:Addr}{Q:Value->Shared->Prop}(all:List nV)(nd:(all.map (·.2.1)).Nodup)(f:all.length<=sizeLine)(k:A.handled=none)(m:s.heap.get? l=↑⟨.type "list",none,.seq (all.map λp=>Value.ref p.1).toArray n,sl⟩)(q:∀p∈all,s.heap.IsTuple p.1 #[.int p.2.1 p.2.2.1,p.2.2.2])(h:∀h' tk,h'.DictOf (re prog w) s.heap.objs.size (all.map λp=>(Sum.inl p.2.1,p.2.2.2))->(∀b o,s.heap.get? b=↑o->h'.get? b=↑o)->Q (.ref s.heap.objs.size) { s with heap:=h',toks:=tk }) :
  wpAny (model prog w) A (call (.type "dict") [.ref l]) Q E s:=by
 refine callType_codes (Q₁:=λobj U=>obj=.ref s.heap.objs.size/\U={ s with heap:=s.heap.push { cls:=.type "dict",data:=.dict #[] } }) F.kt_called_dict (F.kt_typeCall_dict_1 _) F.entry_dict_init (kt_code_dict_new _ ⟨rfl,rfl⟩) ?_;rintro obj U ⟨rfl,rfl⟩;have D:(s.heap.push { cls:=.type "dict",data:=.dict #[] }).DictOf (re prog w) s.heap.objs.size []:=Heap.DictOf.new s.heap;refine⟨D.typeIs,F.args_dict_init_2 _ _,?_⟩;unfold Builtin.«dict.__init__»;refine ax ?_;unfold Builtin.Dict.selfAndRest;refine ax (wpAny_notOrdered_dict D.typeIs (show wpAny _ _ (pure (s.heap.objs.size,[Value.ref l])) _ _ _ from dg ?_));show wpAny _ _ (Builtin.Dict.updateFrom "dict.__init__" s.heap.objs.size (.ref l) [] .none) _ _ _;have V:(s.heap.push { cls:=.type "dict",data:=.dict #[] }).get? l=↑⟨.type "list",none,.seq (all.map λp=>Value.ref p.1).toArray n,sl⟩:=au _ m;unfold Builtin.Dict.updateFrom;refine ax (wpAny_typeOf (T:="list") ⟨_,V,rfl⟩ ?_);rw[aq (by decide)];refine ax (LV (its:=(all.map λp=>Value.ref p.1).toArray) (n:=n) (sl:=sl) k V λh1 Y k1=>?_);rw[aq (show(none:h8).isNone=true from rfl)];refine ax (wpAny_rule ?_);have Z:h1.IsList l (all.map λp=>Value.ref p.1).toArray:=⟨_,k1 _ _ V,rfl,n,rfl⟩;refine ax (lw (s:={ s with heap:=h1,toks:=Y }) Z ?_);refine dg ⟨Code.quiet_builtin _ (by decide +kernel),?_⟩;have I:s.heap.objs.size<h1.objs.size:=by
  obtain⟨o,_,_,a,_⟩:=D;exact bz (k1 _ _ a)
 have c:l<s.heap.objs.size:=bz m;have kp:∀b o,s.heap.get? b=↑o->(h1.push { cls:=.type "list_iterator",data:=.fields #[.ref l,.int 0 0] }).get? b=↑o:=λb o e=>au _ (k1 b o (au _ e));refine EI (d:=s.heap.objs.size) (it:=h1.objs.size) (l:=l) all nd f (li (ui c I)) (cf I) (li c) (λp g=>?_) all [] A.in1 { s with heap:=h1.push { cls:=.type "list_iterator",data:=.fields #[.ref l,.int 0 0] },toks:=Y } rfl k ⟨_,db _ rfl,rfl,rfl⟩ (Z.push _) (λp g=>(q p g).at λo e=>kp _ o e) ?_ λt i j k3=>?_
 ·obtain⟨o,a,_⟩:=q p g
  have:=bz a;exact⟨cf (ui this I),cf this⟩
 ·obtain⟨o,es,u,a,r⟩:=D
  exact⟨o,es,u,au _ (k1 _ _ a),r⟩
 ·refine⟨rfl,h t i j λb o e=>?_⟩
  have lt:=bz e;exact k3 b o (cf lt) (cf (ui lt I)) (kp b o e)
variable{X:Cx}
def EJ{pins:kv}{s:Shared}{σ:St}{H:Hp}(I:Inv X pins σ H s):∀ys:List (Addr×Int×V),(∀y∈ys,eX X.K H y.1 [↥y.2.1,y.2.2]) ->
  ∃all:List nV,all.map (·.1)=ys.map (·.1)/\all.map (·.2.1)=ys.map (·.2.1)/\(∀p∈all,s.heap.IsTuple p.1 #[.int p.2.1 p.2.2.1,p.2.2.2])/\KV (ys.map λy=>((Sum.inl y.2.1:dU),y.2.2)) (all.map λp=>((Sum.inl p.2.1:dU),p.2.2.2))
 | [],_=>⟨[],rfl,rfl,λp hp=>by simp at hp,.nil⟩ |y::ys,h=>by
   obtain⟨all,h1,h2,D,U⟩:=EJ I ys λz Y=>h z (ay _ Y);obtain⟨its,r,pl,_⟩:=I.tuple (h y bi);obtain⟨u,v,rfl,Z,a⟩:=sX r;obtain⟨t,rfl⟩:∃t,u=.int y.2.1 t:=Z;refine⟨(y.1,y.2.1,t,v)::all,by simp[h1],by simp[h2],λp hp=>?_,.cons ⟨rfl,a⟩ U⟩;rcases cr.mp hp with rfl |hp
   ·exact pl
   ·exact D p hp
def EK:∀ {as:ia} {us:h7},aP (as.map V.ref) us->us=as.map Value.ref
 | [],_,.nil=>rfl |a::as,_,.cons r t=>by rw[EK t];cases r;rfl
variable{a:Expr}
def LX(d:X.calm=true):t9 X (.type "dict") (λxs H Q=>∃p,∃ys:List (Addr×Int×V),xs=[.ref p]/\dI X.K H p (ys.map λy=>V.ref y.1)/\(∀y∈ys,eX X.K H y.1 [↥y.2.1,y.2.2])/\(ys.map (·.2.1)).Nodup /\
  ∀a,H a=none->Q (.ref a) (aV H a (.dK (ys.map λy=>(Sum.inl y.2.1,y.2.2))))):=by
 intro pins s σ H xs us Q I r h;obtain⟨p,ys,rfl,f,g,nd,q⟩:=h;obtain⟨u,rfl,i⟩:=yx r;cases i;obtain⟨its,b,pl,c⟩:=I.list f;obtain⟨all,h1,h2,j,l⟩:=EJ I ys g;have e:its=all.map λp=>Value.ref p.1:=by
  have:ys.map (λy=>V.ref y.1)=(ys.map (·.1)).map V.ref:=by rw[gh];rfl
  rw[this] at b;rw[EK b,<-h1,gh];rfl
 subst e;have D:all.length=ys.length:=by have:=congrArg List.length h1;simpa using this
 obtain⟨⟨oc,od,m,sl⟩,n,t,U,Y,Z⟩:=pl;cases U;cases Y;cases Z;refine LW (n:=n) (sl:=sl) all (by rw[h2];exact nd) (by rw[D];simpa using c) (I.ok.hd d) t j λh' tk hd k=>?_;refine⟨.ref s.heap.objs.size,_,I.laid (a:=s.heap.objs.size) (o:=.dK (ys.map λy=>(Sum.inl y.2.1,y.2.2))) (t':=tk) k (b9 _) (LO (by simpa using c) (beq_eq_false_iff_ne.mpr (Ne.symm (cf I.big))) l hd),rfl,q _ (I.hok.fresh (b9 _))⟩
def eI:k7->Option (List (Int×D))
 | []=>↑[] | .tup [↥k,d]::r=>(eI r).map ((k,d)::·) |_::_=>none
def zz:k7->k8
 | [.lst ds]=>(eI ds).bind λps=>if (ps.map (·.1)).Nodup then ↑(.dct (ps.map (·.1)) (ps.map (·.2))) else none
 |_=>none
def EM{K:kf}{H:Hp}{O:Addr->Prop}:∀ {ds:k7} {vs:k6} {ps:List (Int×D)},eI ds=↑ps->aK K H O ds vs ->
  ∃ys:List (Addr×Int×V),vs=ys.map (λy=>V.ref y.1)/\(∀y∈ys,eX K H y.1 [↥y.2.1,y.2.2])/\ys.map (·.2.1)=ps.map (·.1)/\aK K H O (ps.map (·.2)) (ys.map (·.2.2))
 | [],_,_,h,.nil=>by cases h;exact⟨[],rfl,λy hy=>by simp at hy,rfl,.nil⟩
 |d::ds,_,ps,h,.cons r t=>by
   unfold eI at h;split at h
   ·cases (by assumption:_::_=[])
   ·rename_i k d' U I
    cases I;cases e:eI ds with
    |none=>rw[e] at h;cases h
    |some ps' =>
      rw[e] at h;cases h;obtain⟨ys,h1,h2,Y,Z⟩:=EM e t;obtain⟨a,us,rfl,b,U⟩:=r.tup_;obtain⟨u,v,rfl,c,f⟩:=tJ U;cases c.int_;refine⟨(a,k,v)::ys,by rw[h1];rfl,λy hy=>?_,by simp[Y],.cons f Z⟩;rcases cr.mp hy with rfl |hy
      ·exact eX.of b
      ·exact h2 y hy
   ·cases h
def EO:∀ys:List (Addr×Int×V),(ys.map λy=>((Sum.inl y.2.1:dU),y.2.2))=p_ (ys.map (·.2.1)) (ys.map (·.2.2))
 | []=>rfl |y::ys=>by rw[bq,EO ys];rfl
variable{G:Gd}{H0:Hp}
def LY:xw X G H0 (λxs H Q=>∃p,∃ys:List (Addr×Int×V),xs=[.ref p]/\dI X.K H p (ys.map λy=>V.ref y.1)/\(∀y∈ys,eX X.K H y.1 [↥y.2.1,y.2.2])/\(ys.map (·.2.1)).Nodup /\
  ∀a,H a=none->Q (.ref a) (aV H a (.dK (ys.map λy=>(Sum.inl y.2.1,y.2.2))))) zz:=by
 intro W env σ H vs ds d Q ok r e k;unfold zz at e;split at e;case h_2=>cases e
 rename_i I;cases e1:eI I with
 |none=>rw[e1] at e;cases e
 |some ps =>
   rw[e1,ac] at e;split at e;case isFalse=>cases e
   rename_i nd;cases e;obtain⟨v,rfl,U⟩:=vw r;obtain⟨l,us,rfl,h,Y⟩:=U.lst_;obtain⟨ys,rfl,h2,D,Z⟩:=EM e1 Y;refine⟨l,ys,rfl,h.sq,h2,by rw[D];exact nd,λa c=>?_⟩;have sm:bB H (aV H a (.dK (ys.map λy=>(Sum.inl y.2.1,y.2.2)))):=λb o e=>by rw[jo (sw e c)];exact e
   have st:Step W H W (aV H a (.dK (ys.map λy=>(Sum.inl y.2.1,y.2.2)))):=Step.same sm;refine k _ _ st (ok.same sm) (.dct (vs:=ys.map (·.2.2)) ?_ (ok.reps st Z));rw[m6,EO,D]
def LZ:bootBuiltins "dict" = ↑(.type "dict"):=by decide +kernel
variable{b e:Expr}{F:FA}{pos p':Pos}
def EQ(I:fG X G H0 [e] F)(U:‹X.calm=true›)(D:Bn X "dict":=by walk_at "b")(V:‹starEach [e] X.env=(false,eval e X.env)::starEach [] X.env›):aT X G H0 (.Call (.Name "dict" p') [e] [] pos) (e7 zz F) :=
 zI (LX U) LY D.g D.m LZ I (by decide) (by decide) V rfl
variable{i:Nat}
def xz:ik->k7->Int->k8
 |k::ks,d::ds,i=>if k=i then ↑d else xz ks ds i
 |_,_,_=>none
def vt:D->D->k8 | .dct ks ds,.int i=>xz ks ds i |_,_=>none
def ER{K:kf}{H:Hp}{O:Addr->Prop}{i:Int}{d:D}:∀ {ks:ik} {ds:k7} {vs:k6},aK K H O ds vs->xz ks ds i=↑d->∃v,fQ (p_ ks vs) (Sum.inl i)=↑v/\a_ K H O d v
 | [],_,_,_,h=>by simp[xz] at h |k::ks,_,_,.nil,h=>by simp[xz] at h |k::ks,_,_,.cons (v:=v) r t,h=>by
   unfold xz at h;by_cases e:k=i
   ·rw[aq e] at h;cases h
    exact⟨v,by simp[p_,fQ,e],r⟩
   ·rw[b7 e] at h
    obtain⟨w,h1,h2⟩:=ER t h;refine⟨w,?_,h2⟩;rw[<-h1];simp[p_,fQ,e]
variable{x:Str}
def L_:gJ X G H0 (λx y H Q=>∃a v,x=.ref a/\iE H a y ↑v/\Q v H) vt:=by
 intro W env σ H x y U V d Q ok D I e k;unfold vt at e;split at e;case h_2=>cases e
 rename_i ks ds i;cases I.int_;cases D with
 | @dct a _ vs _ ha rr =>
   obtain⟨v,h1,h2⟩:=ER rr e;exact⟨a,v,rfl,by rw[<-h1];exact iE.k (k:=Sum.inl i) ha,k v H Step.refl ok h2⟩
variable{f g:FE}
def nX{jr:Nat}(D:bC jr X.A)(I:aT X G H0 a f)(U:aT X G H0 b g)(V:mK b:=by intro _ _;rfl):aT X G H0 (.Subscript a b pos) (aD vt f g) :=
 ⟨(LS (Kb D) I.out U.out V).imp (qC (r:=λx y H Q=>∃a v,x=.ref a/\iE H a y ↑v/\Q v H) L_)⟩
end L2
namespace L2
open PySem
theorem ES{i:Nat}{g:FS}(P:Nat->DE0->Prop):∀(ds:k7) (e:DE0) (n:Nat),P n e->(∀(k:Nat) (d:D) (e:DE0),ds[k]?=↑d->P (n+k) e->∃e',g (e.set i ⇑d)=↑(.nx,e')/\P (n+k+1) e') ->
  ∃e',dE i g ds e=↑(.nx,e')/\P (n+ds.length) e'
 | [],e,n,h,_=>⟨e,rfl,h⟩ |d::r,e,n,h,hs=>by
   obtain⟨I,h1,p1⟩:=hs 0 d e rfl h;obtain⟨U,h2,p2⟩:=ES P r I (n+1) p1 λk d' e' V Y=>by
    have:=hs (k+1) d' e' (by simpa using V) (by rw[<-Nat.add_assoc,Nat.add_right_comm];exact Y);rw[show n+(k+1)+1=n+1+k+1 by lia] at this;exact this
   refine⟨U,?_,by rw[ao,show n+(r.length+1)=n+1+r.length by lia];exact p2⟩;simp[dE,h1,h2]
variable{i:Int}{g:FS}
def zf{i:Nat}(P:Nat->DE0->Prop)(ds:k7)(e:DE0)(h:P 0 e)(I:∀(k:Nat) (d:D) (e:DE0),ds[k]?=↑d->P k e->∃e',g (e.set i ⇑d)=↑(.nx,e')/\P (k+1) e') :
  ∃e',dE i g ds e=↑(.nx,e')/\P ds.length e':=by
 obtain⟨e',h1,h2⟩:=ES P ds e 0 h λk d e U V=>by
  obtain⟨e',Y,Z⟩:=I k d e U (by simpa using V);exact⟨e',Y,by simpa using Z⟩
 exact⟨e',h1,by simpa using h2⟩
variable{lo:Int}{n:Nat}{d:D}
def mL{k:Nat}(h:(cG lo n)[k]?=↑d):d=.int (lo+k)/\k<n:=by
 unfold cG at h;rw[b8] at h;by_cases D:k<n
 ·rw[ko D] at h
  exact⟨(cg h).symm,D⟩
 ·rw[de (by simpa using D)] at h;cases h
def yg:(cG lo n).length=n:=by simp[cG]
theorem qo(h:-1000000000000<i/\i<1000000000000):o7 i:=⟨by lia,by lia⟩
variable{α:Type}
theorem Ma{xs:List α}(I:0<=i)(h1:i<xs.length):∃x,bF xs i=↑x/\xs[i.toNat]?=↑x:=by
 have D:i.toNat<xs.length:=by lia
 exact⟨xs[i.toNat],by unfold bF dV;rw[aq I,aq h1];simp[D],by simp[D]⟩
variable{ar:Nat}{ds:k7}
def lm{e':DE0}(h:ds.length=ar)(D:g (lf n ds)=↑(.rt d,e')):aR n ar g ds=↑d:=by
 unfold aR;rw[aq h,D]
def few(h:n<=1000000):bS n:=d7 h (by decide)
theorem vh(n:Nat)(D:n<=1000000):gB [↥n]=↑(cG 0 n):=by
 unfold gB;dsimp only;rw[aq (show jB _ _ _ from⟨by lia,by lia⟩),gl]
variable{j:Int}
def u9(h:o7 j):cN ↥i ↥j=↑↥(i*j):=by
 unfold cN;dsimp only;rw[aq (.inr h)]
def vy(h:o7 i):cN ↥i ↥j=↑↥(i*j):=by
 unfold cN;dsimp only;rw[aq (.inl h)]
def qQ(h:0<j):bM ↥i ↥j=↑↥(i % j):=by
 unfold bM;dsimp only;rw[aq h]
theorem uA(h:0<j)(h2:j<1073741824):c_ ↥i ↥j=↑↥(i / j):=by
 unfold c_;dsimp only;rw[aq (show jB _ _ _ from⟨by lia,h2⟩)]
def ud{α:Type}{te:FE}{base:DE0}(φ ψ:α->D):∀(xs:List α),(∀x∈xs,∃e',te (⇑(φ x)::base)=↑(ψ x,e'))->tw cA te base (xs.map φ)=↑(xs.map ψ)
 | [],_=>rfl |x::xs,h=>by
   obtain⟨e',I⟩:=h x bi;have U:=ud φ ψ xs λy V=>h y (ay _ V);simp[tw,I,U]
def qR{α:Type}{tt:FT}{te:FE}{base:DE0}(φ ψ:α->D)(p:α->Bool):∀(xs:List α),(∀x∈xs,∃I,tt (⇑(φ x)::base)=↑(p x,I)/\(p x=true->∃e',te I=↑(ψ x,e')))->tw tt te base (xs.map φ)=↑((xs.filter p).map ψ)
 | [],_=>rfl |x::xs,h=>by
   obtain⟨I,h1,h2⟩:=h x bi;have U:=qR φ ψ p xs λy V=>h y (ay _ V);cases hp:p x with
   |false =>
     simp[tw,h1,U,List.filter_cons,hp]
   |true =>
     obtain⟨e',Y⟩:=h2 hp;simp[tw,h1,Y,U,List.filter_cons,hp]
def ET{α:Type}{te:FA}{base:DE0}(φ:α->D)(ψ:α->k7):∀(xs:List α),(∀x∈xs,∃e',te (⇑(φ x)::base)=↑(ψ x,e'))->qJ te base (xs.map φ)=↑(xs.map ψ)
 | [],_=>rfl |x::xs,h=>by
   obtain⟨e',I⟩:=h x bi;have U:=ET φ ψ xs λy V=>h y (ay _ V);simp[qJ,I,U]
def EU{α:Type}:∀ {l:List α} {n:Nat} {z:α},l[n]?=↑z->l.Perm (z::l.eraseIdx n)
 |a::l,0,z,h=>by simp at h;subst h;exact .refl _
 |a::l,n+1,z,h=>by
   have D:=EU (l:=l) (n:=n) (z:=z) (by simpa using h);exact(D.cons a).trans (List.Perm.swap z a _)
def Mb(a b c:D):bF [a,b,c] 0=↑a:=rfl
def qS(a b c:D):bF [a,b,c] 1=↑b:=rfl
def nY(a b c:D):bF [a,b,c] 2=↑c:=rfl
def Mc(a b c d:D):bF [a,b,c,d] 0=↑a:=rfl
def Md(a b c d:D):bF [a,b,c,d] 1=↑b:=rfl
def Me(a b c d:D):bF [a,b,c,d] 2=↑c:=rfl
def Mf(a b c d:D):bF [a,b,c,d] 3=↑d:=rfl
def EV{α:Type}{i:Nat}{g:FS}(φ:α->D)(P:List α->DE0->Prop)(all:List α)(I:∀(p:List α) (x:α) (q:List α) (e:DE0),all=p++x::q->P p e->∃e',g (e.set i ⇑(φ x))=↑(.nx,e')/\P (p++[x]) e') :
  ∀(xs pre:List α) (e:DE0),all=pre++xs->P pre e->∃e',dE i g (xs.map φ) e=↑(.nx,e')/\P all e'
 | [],pre,e,h,hp=>⟨e,rfl,by rw[h,du];exact hp⟩ |x::xs,pre,e,h,hp=>by
   obtain⟨U,h1,p1⟩:=I pre x xs e h hp;obtain⟨V,h2,p2⟩:=EV φ P all I xs (pre++[x]) U (by rw[h];simp) p1;exact⟨V,by simp[dE,h1,h2],p2⟩
def uc{i:Nat}(φ:α->D)(P:List α->DE0->Prop)(all:List α)(e:DE0)(I:P [] e)(U:∀(p:List α) (x:α) (q:List α) (e:DE0),all=p++x::q->P p e->∃e',g (e.set i ⇑(φ x))=↑(.nx,e')/\P (p++[x]) e') :
  ∃e',dE i g (all.map φ) e=↑(.nx,e')/\P all e':=EV φ P all U all [] e rfl I
def Mg(h:ds.length=ar)(D:∃e',g (lf n ds)=↑(.rt d,e')):aR n ar g ds=↑d:=by
 obtain⟨e',D⟩:=D;exact lm h D
end L2
namespace L2
open PySem PySem.Spec PyProof.Rows PySem.W
abbrev Ag:=AK×k9
abbrev ll:=List Ag
abbrev ln:=Option (D×List Ag)
def lI(x:Ag)(j:Nat):Sl:=.ag x.1 ↑j x.2
def dY(env:DE0):ic->Option ll
 | []=>↑[] |i::r=>match env[i]? with |some ↑(.ag k _ ps)=>(dY env r).map λt=>(k,ps)::t |_=>none
def dJ(env:DE0):ic->ll->DE0
 |i::r,x::t=>match env[i]? with |some ↑(.ag _ l _)=>dJ (env.set i ↑(.ag x.1 l x.2)) r t |_=>dJ env r t
 |_,_=>env
def t6(ags:ll):DE0:=ags.zipIdx.map λp=>↑(lI p.1 p.2)
variable{env:DE0}
def mM:∀ {is:ic} {ags:ll} {j i:Nat},dY env is=↑ags->is[j]?=↑i->∃x l,ags[j]?=↑x/\env[i]?=↑↑(.ag x.1 l x.2)
 |a::r,ags,j,i,h,e=>by
   unfold dY at h;split at h
   ·rename_i k l ps q
    cases h2:dY env r with
    |none=>rw[h2] at h;cases h
    |some t =>
      rw[h2] at h;cases h;cases j with
      |zero=>simp at e;subst e;exact⟨(k,ps),l,rfl,q⟩
      |succ j=>obtain⟨x,l',D,I⟩:=mM h2 (by simpa using e);exact⟨x,l',by simpa using D,I⟩
   ·cases h
def nZ:∀ {is:ic} {ags:ll},dY env is=↑ags->ags.length=is.length
 | [],_,h=>by cases h;rfl
 |a::r,ags,h=>by
   unfold dY at h;split at h
   ·cases h2:dY env r with
    |none=>rw[h2] at h;cases h
    |some t=>rw[h2] at h;cases h;rw[ao,ao,nZ h2]
   ·cases h
def An:∀ {is:ic} {ags:ll} {env:DE0},(dJ env is ags).length=env.length
 | [],_,_=>by simp[dJ] |a::r,[],_=>by simp[dJ] |a::r,x::t,env=>by
   unfold dJ;split
   ·rw[An,d9]
   ·rw[An]
def uB:∀ {is:ic} {ags:ll} {env:DE0} {i:Nat},i∉is->(dJ env is ags)[i]?=env[i]?
 | [],_,_,_,_=>by simp[dJ] |a::r,[],_,_,_=>by simp[dJ] |a::r,x::t,env,i,h=>by
   have h1:a≠i:=λz=>h (by simp[z]);have h2:i∉r:=λz=>h (by simp[z]);unfold dJ;split
   ·rw[uB h2,d8 h1]
   ·rw[uB h2]
def Ao:∀ {is:ic} {ags:ll} {env:DE0} {j i:Nat} {x:Ag} {k:AK} {l:Option Nat} {ps:k9},is.Nodup->is[j]?=↑i->ags[j]?=↑x->env[i]?=↑↑(.ag k l ps)->(dJ env is ags)[i]?=↑↑(.ag x.1 l x.2)
 |a::r,y::t,env,j,i,x,k,l,ps,nd,e1,e2,e3=>by
   cases j with
   |zero =>
     simp at e1 e2;subst e1;subst e2;unfold dJ;rw[e3];rw[uB (ci.mp nd).1,fx (aj.mp e3).1]
   |succ j =>
     have hi:a≠i:=λz=>by subst z;exact(ci.mp nd).1 (bc (by simpa using e1))
     unfold dJ;split
     ·exact Ao (ci.mp nd).2 (by simpa using e1) (by simpa using e2) (by rw[d8 hi];exact e3)
     ·exact Ao (ci.mp nd).2 (by simpa using e1) (by simpa using e2) e3
variable{ags:ll}{j:Nat}{s:Stmt}
def uC{s:Sl}(h:(t6 ags)[j]?=↑↑s):∃x,ags[j]?=↑x/\s=lI x j:=by
 unfold t6 at h;rw[b8,kh] at h;cases e:ags[j]? with
 |none=>rw[e] at h;cases h
 |some x=>rw[e] at h;cases h;exact⟨x,rfl,by simp⟩
def EW:(t6 ags).length=ags.length:=by simp[t6]
def fR(H:Hp)(W:Addr->Prop):Hp:=λa=>open Classical in if W a then none else H a
variable{a:Addr}{W:Addr->Prop}{H:Hp}
def Ap(h:W a):fR H W a=none:=aq h
def EX(h:¬W a):fR H W a=H a:=b7 h
variable{o:Expr}
def EY{o:HO}(h:fR H W a=↑o):¬W a/\H a=↑o:=by
 by_cases z:W a
 ·rw[Ap z] at h;cases h
 ·rw[EX z] at h;exact⟨z,h⟩
def EZ(h:fR H W a=none):W a\/H a=none:=by
 by_cases z:W a
 ·exact .inl z
 ·rw[EX z] at h;exact .inr h
def cQ(H:Hp)(env:DE0)(σ:St)(is:ic):Addr->Prop:=λa=>∃i s v,i∈is/\env[i]?=↑↑s/\σ[i]?=↑↑v/\bL H s v a
variable{is:ic}{K:kf}{G:Gd}{H0:Hp}{σ:St}
def Ok.lentW(ok:Ok K G H0 W env σ H)(h:cQ H env σ is a):W a:=by
 obtain⟨i,s,v,_,e,I,o⟩:=h;obtain⟨U,D,q⟩:=ok.slot i s e;rw[I] at D;cases D;exact q.owns o
def xy(G:Gd)(W L:Addr->Prop)(r:Nat->ia):Gd:=⟨λa=>G a/\(W a->L a),r⟩
def Ok.lend(ok:Ok K G H0 W env σ H)(nd:is.Nodup)(g:dY env is=↑ags) :
  ∃(r:Nat->ia) (us:k6),us.length=is.length/\(∀(j i:Nat),is[j]?=↑i->∃u,us[j]?=↑u/\σ[i]?=↑↑u) /\
   (∀(j i:Nat) (k:AK) (l:Option Nat) (ps:k9),is[j]?=↑i->env[i]?=↑↑(.ag k l ps)->∃p as,us[j]?=↑(.ref p)/\kR k (r j) p as/\∀n,l=↑n->kR k (G.r n) p as) /\
   Ok K (xy G W (cQ H env σ is) r) (fR H (cQ H env σ is)) (cQ H env σ is) (t6 ags) (us.map some) H:=by
 have F:∀a,cQ H env σ is a->W a:=λa=>ok.lentW;have ex:∀j:Nat,∃t:ia×V,∀(i:Nat) (x:Ag) (l:Option Nat),is[j]?=↑i->ags[j]?=↑x->env[i]?=↑↑(.ag x.1 l x.2) ->
   σ[i]?=↑↑t.2/\∃p as us,t.2=.ref p/\kR x.1 t.1 p as/\W p/\(p::as).Nodup/\(∀n,l=↑n->kR x.1 (G.r n) p as)/\eE K H x.1 p us/\aW K G W H x.2 as us:=λj=>by
  cases U:is[j]? with
  |none=>exact⟨([],.non),λi x l e=>by cases e⟩
  |some i =>
    obtain⟨x,l,h1,h2⟩:=mM g U;obtain⟨v,I,p,as,us,Y,X,M,hl,J,L⟩:=ok.slot i _ h2;refine⟨(match x.1 with | .ins true _ _=>[p] |_=>p::as,v),λN O l' z1 z2 z3=>?_⟩;cases z1;rw[h1] at z2;cases z2;rw[h2] at z3;cases z3;refine⟨I,p,as,us,Y,?_,X,M,hl,J,L⟩;obtain⟨k,ps⟩:=x;cases k with
    |ls=>rfl |ins b c fs=>cases b <;> rfl
 obtain⟨t,f⟩:=Classical.axiomOfChoice ex;have y:=nZ g;refine⟨λj=>(t j).1,(List.range is.length).map λj=>(t j).2,by simp,λj i e=>?_,λj i k l ps I Y=>?_,?_⟩
 ·have U:=(aj.mp e).1
  obtain⟨x,l,h1,h2⟩:=mM g e;exact⟨_,by simp[U],(f j i x l e h1 h2).1⟩
 ·have U:=(aj.mp I).1
  obtain⟨x,l',h1,h2⟩:=mM g I;rw[Y] at h2;cases h2;obtain⟨q1,p,as,us,A,P,_,_,q4,_⟩:=f j i x l I h1 Y;exact⟨p,as,by simp[U,A],P,q4⟩
 ·have own:∀ {j i:Nat} {x:Ag} {l:Option Nat},is[j]?=↑i->ags[j]?=↑x->env[i]?=↑↑(.ag x.1 l x.2)->∀a,bL H (lI x j) (t j).2 a->cQ H env σ is a:=λ{j i x l} I Y B a o =>
   ⟨i,_,_,bc I,B,(f j i x l I Y B).1,o⟩
  have cv:∀ {d:D} {v:V},a_ K H (Ow G W) d v->a_ K H (Ow (xy G W (cQ H env σ is) λj=>(t j).1) (cQ H env σ is)) d v:=λr =>
   r.mono (λ_ _ h=>h) λa us o h=>⟨⟨⟨o.1,λz=>absurd z o.2⟩,λz=>o.2 (F a z)⟩,h⟩
  have Q:∀ {d:k7} {v:k6},aK K H (Ow G W) d v->aK K H (Ow (xy G W (cQ H env σ is) λj=>(t j).1) (cQ H env σ is)) d v:=λr =>
   r.mono (λ_ _ h=>h) λa us o h=>⟨⟨⟨o.1,λz=>absurd z o.2⟩,λz=>o.2 (F a z)⟩,h⟩
  have pos:∀ {j:Nat} {s:Sl},(t6 ags)[j]?=↑↑s->∃i x l,is[j]?=↑i/\ags[j]?=↑x/\env[i]?=↑↑(.ag x.1 l x.2)/\s=lI x j/\(((List.range is.length).map λj=>(t j).2).map some)[j]?=↑↑(t j).2:=λ{j s} e=>by
   obtain⟨x,h1,rfl⟩:=uC e;have U:j<is.length:=by rw[<-y];exact(aj.mp h1).1
   obtain⟨O,l,h2,Z⟩:=mM g (show is[j]?=↑is[j] by simp[U]);rw[h1] at h2;cases h2;exact⟨is[j],x,l,by simp[U],h1,Z,rfl,by simp[U]⟩
  refine⟨λa o e=>(EY e).2,λa e=>?_,λa e=>⟨Ap e,(ok.wl a (F a e)).2⟩,λj s e=>?_,λj j' s s' v v' a I Y B e4 o1 o2=>?_,by rw[EW,ah,ah,jg,y]⟩
  ·rcases EZ e with z |z
   ·exact⟨ok.good a (ok.wl a (F a z)).1,λ_=>z⟩
   ·exact⟨ok.good a (ok.stay.free z),λw=>by obtain⟨_,m,q⟩:=ok.wl a w;rw[z] at q;cases q⟩
  ·obtain⟨i,x,l,h1,h2,Z,rfl,R⟩:=pos e
   obtain⟨q1,p,as,us,A,P,X,M,q4,J,L⟩:=f j i x l h1 h2 Z;refine⟨_,R,p,as,us,A,own h1 h2 Z p (.inl A),M,λn z=>by cases z;exact P,J,L.step (λa vs ha z=>⟨own h1 h2 Z a (.inr ⟨p,us,A,J.o,L.parts_iff.mpr ha⟩),z⟩) (λ_ _ r=>cv r) λ_ _ r=>Q r⟩
  ·obtain⟨i,x,l,h1,h2,Z,rfl,R⟩:=pos I
   obtain⟨N,O,l',C,S,E,rfl,T⟩:=pos Y;rw[R] at B;cases B;rw[T] at e4;cases e4;have:=ok.uniq i N _ _ _ _ a Z E (f j i x l h1 h2 Z).1 (f j' N O l' C S E).1 o1 o2;subst this;exact zv nd h1 C
variable{us:k6}{W':Addr->Prop}{H':Hp}
theorem Ok.unlend(ok:Ok K G H0 W env σ H){I:ll}{r:Nat->ia}{env':DE0}{T:St}(nd:is.Nodup)(hg:dY env is=↑ags)(hu:∀(j i:Nat),is[j]?=↑i->∃u,us[j]?=↑u/\σ[i]?=↑↑u)(X:∀(j i:Nat) (k:AK) (l:Option Nat) (ps:k9),is[j]?=↑i->env[i]?=↑↑(.ag k l ps)->∃p as,us[j]?=↑(.ref p)/\kR k (r j) p as/\∀n,l=↑n->kR k (G.r n) p as)(hl:I.length=is.length)(an:∀(j:Nat) (x y:Ag),ags[j]?=↑x->I[j]?=↑y->y.1=x.1)(st:Step (cQ H env σ is) H W' H')(F:Ok K (xy G W (cQ H env σ is) r) (fR H (cQ H env σ is)) W' env' T H')(g:∀(j:Nat) (x:Ag),I[j]?=↑x->env'[j]?=↑↑(lI x j)) :
  Ok K G H0 (λa=>W' a\/(W a/\¬cQ H env σ is a)) (dJ env is I) σ H'/\Step W H (λa=>W' a\/(W a/\¬cQ H env σ is a)) H' /\
   (∀ {d:D} {v:V},a_ K H' (Ow (xy G W (cQ H env σ is) r) W') d v->a_ K H' (Ow G (λa=>W' a\/(W a/\¬cQ H env σ is a))) d v):=by
 have lW:∀a,cQ H env σ is a->W a:=λa=>ok.lentW;have P:∀a,W' a->cQ H env σ is a\/H a=none:=st.ws;have n':∀a,W' a->W a->cQ H env σ is a:=λa h w=>(P a h).elim id λz=>by obtain⟨_,m,q⟩:=ok.wl a w;rw[z] at q;cases q
 have aa:Step W H (λa=>W' a\/(W a/\¬cQ H env σ is a)) H':=⟨λb o e n=>st.keep b o e λz=>n (lW b z),λa z=>by
  rcases z with z |z
  ·exact(P a z).imp (lW a) id
  ·exact .inl z.1⟩
 have back:∀ {j i:Nat} {y:Ag} {k:AK} {l:Option Nat} {ps:k9},is[j]?=↑i->I[j]?=↑y->env[i]?=↑↑(.ag k l ps) ->
   ∃u p as vs,σ[i]?=↑↑u/\T[j]?=↑↑u/\u=.ref p/\W' p/\(p::as).Nodup/\(∀n,l=↑n->kR y.1 (G.r n) p as)/\eE K H' y.1 p vs/\aW K (xy G W (cQ H env σ is) r) W' H' y.2 as vs:=λ{j i y k l ps} Y E J=>by
  obtain⟨x,l',h1,h2⟩:=mM hg Y;rw[J] at h2;cases h2;obtain⟨v,O,p,as,vs,rfl,hW,n1,hr,hk,hp⟩:=F.slot j _ (g j y E);obtain⟨u,M,N⟩:=hu j i Y;obtain⟨p0,Q,S,t,z5⟩:=X j i _ _ _ Y J;rw[M] at S;cases S;have hy:=an j x y h1 E;have Z:kR y.1 (r j) p as:=hr j rfl;have same:p=p0/\(as=Q\/∃c fs,y.1=.ins true c fs):=by
   rw[<-hy] at t;generalize y.1=kk at Z t;cases kk with
   |ls=>have Z:r j=p::as:=Z;have t:r j=p0::Q:=t;rw[Z] at t;cases t;exact⟨rfl,.inl rfl⟩
   |ins b c fs =>
     cases b with
     |true=>have Z:r j=[p]:=Z;have t:r j=[p0]:=t;rw[Z] at t;cases t;exact⟨rfl,.inr ⟨c,fs,rfl⟩⟩
     |false=>have Z:r j=p::as:=Z;have t:r j=p0::Q:=t;rw[Z] at t;cases t;exact⟨rfl,.inl rfl⟩
  obtain⟨rfl,hs⟩:=same;refine⟨_,p,as,vs,N,O,rfl,hW,n1,λn hn=>?_,hk,hp⟩;have z6:=z5 n hn;rw[<-hy] at z6;rcases hs with rfl | ⟨c,fs,q⟩
  ·exact z6
  ·rw[q] at z6 ⊢;exact z6
 have up:∀(a:Addr) (us:k6),Ow (xy G W (cQ H env σ is) r) W' a->Rd H' a (.lst us)->Ow G (λa=>W' a\/(W a/\¬cQ H env σ is a)) a/\Rd H' a (.lst us):=λa us o h=>⟨⟨o.1.1,λz=>z.elim o.2 λy=>y.2 (o.1.2 y.1)⟩,h⟩;have cv:∀ {d:D} {v:V},a_ K H' (Ow (xy G W (cQ H env σ is) r) W') d v->a_ K H' (Ow G (λa=>W' a\/(W a/\¬cQ H env σ is a))) d v:=λrp=>rp.mono (λ_ _ h=>h) up;have ap:∀ {d:k7} {v:k6},aK K H' (Ow (xy G W (cQ H env σ is) r) W') d v->aK K H' (Ow G (λa=>W' a\/(W a/\¬cQ H env σ is a))) d v:=λrp=>rp.mono (λ_ _ h=>h) up;have A:∀ {i:Nat} {s:Sl} {v:V},i∉is->env[i]?=↑↑s->σ[i]?=↑↑v->∀a,bL H s v a->W a/\¬cQ H env σ is a:=λ{i s v} hi e Y a o=>by
  obtain⟨v',E,q⟩:=ok.slot i s e;rw[Y] at E;cases E;refine⟨q.owns o,λz=>?_⟩;obtain⟨i',s',v',B,M,N,S⟩:=z;exact hi ((ok.uniq i i' s s' _ _ a e M Y N o S) ▸ B)
 have R:∀ {i:Nat} {s:Sl} {v:V},i∉is->env[i]?=↑↑s->σ[i]?=↑↑v->∀a (m:Mo),bL H s v a->H a=↑m.out->(W' a\/(W a/\¬cQ H env σ is a))/\H' a=↑m.out:=λ{i s v} hi e Y a m o q=>by
  have z:=A hi e Y a o;exact⟨.inr z,st.keep a _ q z.2⟩
 have C:∀ {i:Nat} {s:Sl} {v:V} {a:Addr},i∉is->env[i]?=↑↑s->σ[i]?=↑↑v->bL H' s v a->bL H s v a:=λ{i s v a} hi e Y o=>by
  obtain⟨v',E,q⟩:=ok.slot i s e;rw[Y] at E;cases E;refine q.back (λl z w m N=>?_) o;refine st.keep l _ N λy=>?_;obtain⟨i',s',v',B,M,S,t⟩:=y;have ol:bL H s v l:=by
   cases s with
   |sh d=>exact o.elim |ow ds=>exact z |o2 dss=>exact .inl z |ag k r ps=>exact .inl z |al _ _=>exact o.elim |ro _ _=>exact o.elim
  exact hi ((ok.uniq i i' s s' _ _ l e M Y S ol t) ▸ B)
 have U:∀ {i:Nat} {s:Sl},(dJ env is I)[i]?=↑↑s->(i∉is/\env[i]?=↑↑s)\/∃(j:Nat) (y:Ag) (k:AK) (l:Option Nat) (ps:k9),is[j]?=↑i/\I[j]?=↑y/\env[i]?=↑↑(.ag k l ps)/\s=.ag y.1 l y.2:=λ{i s} e=>by
  by_cases hi:i∈is
  ·obtain⟨j,hj,ej⟩:=md hi
   have Y:is[j]?=↑i:=by simp[hj,ej]
   obtain⟨x,l,h1,h2⟩:=mM hg Y;have h3:I[j]?=↑(I[j]'∅):=by simp[hl,hj]
   rw[Ao nd Y h3 h2] at e;cases e;exact .inr ⟨j,_,_,l,_,Y,h3,h2,rfl⟩
  ·rw[uB hi] at e;exact .inl ⟨hi,e⟩
 refine⟨⟨λb o e=>?_,ok.good,λa z=>?_,λi s e=>?_,λi i' s s' v v' a Y E J O o1 o2=>?_,by rw[An];exact ok.len⟩,aa,cv⟩
 ·exact st.keep b o (ok.stay b o e) λz=>by rw[(ok.wl b (lW b z)).1] at e;cases e
 ·rcases z with z |z
  ·refine⟨?_,(F.wl a z).2⟩
   rcases P a z with y |y
   ·exact(ok.wl a (lW a y)).1
   ·exact ok.stay.free y
  ·obtain⟨q,m,hm⟩:=ok.wl a z.1
   exact⟨q,m,st.keep a _ hm z.2⟩
 ·rcases U e with⟨hi,e⟩ | ⟨j,y,k,l,ps,Y,E,J,rfl⟩
  ·obtain⟨v,Y,q⟩:=ok.slot i s e
   exact⟨v,Y,ok.slstep aa q (R hi e Y)⟩
  ·obtain⟨u,p,as,vs,L,_,rfl,hW,n1,ar,hk,hp⟩:=back Y E J
   exact⟨_,L,p,as,vs,rfl,.inl hW,n1,ar,hk,hp.step (λa ws ha z=>⟨.inl (hp.own ha).1,z⟩) (λ_ _ r=>cv r) λ_ _ r=>ap r⟩
 ·rcases U Y with⟨hi,f1⟩ | ⟨j,y,k,l,ps,f1,f2,f3,rfl⟩ <;> rcases U E with⟨B,f⟩ | ⟨j',y',k',l',ps',f,f2',f3',rfl⟩
  ·exact ok.uniq i i' s s' v v' a f1 f J O (C hi f1 J o1) (C B f O o2)
  ·exfalso
   obtain⟨M,N⟩:=A hi f1 J a (C hi f1 J o1);obtain⟨u,p,as,vs,L,q2,_⟩:=back f f2' f3';rw[O] at L;cases L;obtain⟨v0,w1,w2⟩:=F.slot j' _ (g j' y' f2');rw[q2] at w1;cases w1;exact N (n' a (w2.owns o2) M)
  ·exfalso
   obtain⟨M,N⟩:=A B f O a (C B f O o2);obtain⟨u,p,as,vs,L,q2,_⟩:=back f1 f2 f3;rw[J] at L;cases L;obtain⟨v0,w1,w2⟩:=F.slot j _ (g j y f2);rw[q2] at w1;cases w1;exact N (n' a (w2.owns o1) M)
  ·obtain⟨u,p,as,vs,L,q2,_⟩:=back f1 f2 f3
   obtain⟨u',p',a1,vs',ab,a0,_⟩:=back f f2' f3';rw[J] at L;cases L;rw[O] at ab;cases ab;have:=F.uniq j j' _ _ _ _ a (g j y f2) (g j' y' f2') q2 a0 o1 o2;subst this;rw[f1] at f;cases f;rfl
def dR(P:Program)(w:World)(K:kf)(mg:Str->h8)(base:Heap)(cn m:Str)(k:Nat)(sp:Sp):Prop :=
 ∃C D fd ps,iO K C/\jR K C m D/\cK P w K mg base (dX P w) k D fd ps sp/\Binds K fd ps []/\Cl K cn C
def qT(K:kf)(cn m:Str):Prop:=∃C,iO K C/\fA K C m/\Cl K cn C
def mO(P:Program)(w:World)(K:kf)(mg:Str->h8)(base:Heap)(x:Str)(k:Nat)(sp:Sp):Prop :=
 ∃C D fd ps,Mk K C D/\cK P w K mg base (dX P w) k D fd ps sp/\mg x=↑(.ref C)/\Binds K fd ps []/\Cl K x C/\(x==("__debug__" : Str))=false
def jK(X:Cx)(σ:St):XK:=λcls _ H'=>∀pins H s C ea s',cls=.ref C->Inv X pins σ H s->jC X.prog X.w X.stack H s C ea H' s'->X.xe (.ref ea) s'
variable{vs:k6}{X:Cx}{k:Nat}{f:Addr}{fd:FuncData}{ps:h6}{sp:Sp}
theorem Aq{pins:kv}{s:Shared}{Q:VK}{us:h7}(F:cK X.prog X.w X.K X.mg X.base (dX X.prog X.w) k f fd ps sp)(V:bC k X.A)(Y:Binds X.K fd ps [])(I:Inv X pins σ H s)(r:aP vs us)(h:sp vs H Q (jK X σ)):wpAny (model X.prog X.w) X.A (call (.ref f) us) (EP X pins σ Q) X.xe s:=by
 have Z:(us++[]).length=ps.length:=by rw[du,<-r.length];exact F.len _ _ _ _ h
 have U:=Y s us I.kIn Z;rw[du] at U;refine nn (j5 (F.run X.A X.stack s H ⟨us,[]⟩ us vs Q (jK X σ) V I.env0 U r h) λr s' D=>?_);cases r with
 |error e =>
   obtain⟨ea,C,H',rfl,fl,z⟩:=D;exact z pins H s C ea s' rfl I fl
 |ok fl =>
   cases fl with
   |ret u=>exact I.after D |next=>exact False.elim D |brk=>exact False.elim D |cont=>exact False.elim D
def Mh(X:Cx)(sp:Sp)(t:TA):TE:=λσ H Q=>t σ H λvs H1=>sp vs H1 Q (jK X σ)
variable{x:Str}{p pos:Pos}{e:Expr}{es:i0}{t:TA}
def qU(F:cK X.prog X.w X.K X.mg X.base (dX X.prog X.w) k f fd ps sp)(Y:bC k X.A)(Z:Gl X x)(a:X.mg x=↑(.ref f))(b:PySem.W.keepIn X.K (.ref f)=true)(c:Binds X.K fd ps [])(d:PA X (e::es) t)(D:(x==("__debug__" : Str))=false:=by decide)(g:‹starEach (e::es) X.env=(false,eval e X.env)::starEach es X.env›)(U:‹(backTo pos (starEach es X.env)).any (·.1)=false›) :
  PE X (.Call (.Name x p) (e::es) [] pos) (Mh X sp t):=by
 intro pins s σ H Q I h;refine je (lK I Z a ?_ D);refine kx (h₀:=X.base) I.ok.mod.kin b (bI (d pos pins s σ H _ I h) λus j i=>?_) g U;obtain⟨vs,H1,V,r,q⟩:=i;refine⟨V.kIn,?_⟩;exact Aq F Y c V r q
def uD(X:Cx)(C:Addr)(m:Str)(sp:Sp)(ta:TE)(t:TA):TE:=λσ H Q=>ta σ H λx H1=>∃a dx fs,x=.ref a/\H1 a=↑(.ins C dx fs)/\fs.lookup m=none/\t σ H1 λvs H2=>sp (x::vs) H2 Q (jK X σ)
variable{pl:Sem Bool}{C:Addr}{m:Str}{apos:Pos}{ta:TE}
def Ar(d:PE X o ta)(c:iO X.K C)(Y:jR X.K C m f)(F:cK X.prog X.w X.K X.mg X.base (dX X.prog X.w) k f fd ps sp)(g:bC k X.A)(i:Binds X.K fd ps [])(j:PA X (e::es) t)(D:‹starEach (e::es) X.env=(false,eval e X.env)::starEach es X.env›)(U:‹(backTo pos (starEach es X.env)).any (·.1)=false›)(n:eval (.Call (.Attribute o m apos) (e::es) [] pos) X.env=(do
   let ov <-eval o X.env
   standAt apos.atName
   let (f,first) <-holding [ov] (getMethod ov m pl)
   callWith pos f first (backTo pos (starEach (e::es) X.env)) (backToKw pos (keywordEach [] X.env))):=by rfl) :
  PE X (.Call (.Attribute o m apos) (e::es) [] pos) (uD X C m sp ta t):=by
 intro pins s σ H Q I h;refine PySem.W.methodCall_KW (pl:=pl) (bI (d pins s σ H _ I h) λu p V=>?_) n;obtain⟨x,H1,Z,v,a,dx,fs,ex,ea,l,q⟩:=V;subst ex;obtain rfl:u=Value.ref a:=v;refine Dm Z ea c Y l ?_;refine kx (first:=[.ref a]) (h₀:=X.base) I.ok.mod.kin Y.kp (bI (j pos pins p σ H1 _ Z q) λus s2 V=>?_) D U;obtain⟨vs,H2,b,r,y⟩:=V;refine⟨b.kIn,?_⟩;exact Aq (us:=.ref a::us) (vs:=.ref a::vs) F g i b (.cons rfl r) y
def As(V:PE X o ta)(c:iO X.K C)(U:jR X.K C m f)(F:cK X.prog X.w X.K X.mg X.base (dX X.prog X.w) k f fd ps sp)(Y:bC k X.A)(Z:Binds X.K fd ps [])(b:eval (.Call (.Attribute o m apos) [] [] pos) X.env=(do
   let ov <-eval o X.env
   standAt apos.atName
   let (f,first) <-holding [ov] (getMethod ov m pl)
   callWith pos f first (backTo pos (starEach [] X.env)) (backToKw pos (keywordEach [] X.env))):=by rfl) :
  PE X (.Call (.Attribute o m apos) [] [] pos) (uD X C m sp ta lP):=by
 intro pins s σ H Q I h;refine PySem.W.methodCall_KW (pl:=pl) (bI (V pins s σ H _ I h) λu g d=>?_) b;obtain⟨x,H1,D,e,a,dx,fs,ex,ea,l,q⟩:=d;subst ex;obtain rfl:u=Value.ref a:=e;refine Dm D ea c U l ?_;exact PySem.W.callWith_K0 (first:=[.ref a]) D.kIn U.kp (Aq (us:=[.ref a]) (vs:=[.ref a]) F Y Z D (.cons rfl .nil) q)
def Mi(X:Cx)(C:Addr)(sp:Sp)(t:TA):TE:=λσ H Q=>t σ H λvs H1=>∀x dx,H1 x=none->H1 dx=none->dx≠x ->
 sp (.ref x::vs) (aV (aV H1 dx (.own x)) x (.ins C dx [])) (λv H2=>v=.non/\Q (.ref x) H2) (jK X σ)
theorem Mj(M:Mk X.K C f)(F:cK X.prog X.w X.K X.mg X.base (dX X.prog X.w) k f fd ps sp)(g:bC (k+1) X.A)(i:Gl X x)(j:X.mg x=↑(.ref C))(l:Binds X.K fd ps [])(m:PA X (e::es) t)(Y:(x==("__debug__" : Str))=false:=by decide)(n:‹starEach (e::es) X.env=(false,eval e X.env)::starEach es X.env›)(Z:‹(backTo pos (starEach es X.env)).any (·.1)=false›) :
  PE X (.Call (.Name x p) (e::es) [] pos) (Mi X C sp t):=by
 intro pins o σ H0 Q a q;refine je (lK a i j ?_ Y);refine kx (h₀:=X.base) a.ok.mod.kin M.kp (bI (m pos pins o σ H0 _ a q) λus s y=>?_) n Z;obtain⟨vs,H,I,r,h⟩:=y;refine⟨I.kIn,?_⟩;have b:=h (s.heap.objs.size+1) s.heap.objs.size (I.hok.fresh (qe _)) (I.hok.fresh (b9 _)) (cf (gg _));have U:=Inv.made (C:=C) I;have c:aP (V.ref (s.heap.objs.size+1)::vs) (Value.ref (s.heap.objs.size+1)::us):=.cons rfl r;have B:((Value.ref (s.heap.objs.size+1)::us)++[]).length=ps.length:=by rw[du,<-c.length];exact F.len _ _ _ _ b
 have d:=l ⟨_,s.gens,s.drawn,s.toks,s.os⟩ (Value.ref (s.heap.objs.size+1)::us) U.kIn B;rw[du] at d;refine nn (Jn (f:=f) I.kIn M.makes M.init (mw.mp M.fn) (j5 (F.run _ X.stack _ _ ⟨Value.ref (s.heap.objs.size+1)::us,[]⟩ (Value.ref (s.heap.objs.size+1)::us) _ _ (jK X σ) (g.make C us [])
  (U.env0.make C us []) d c b) λr s' D=>?_))
 cases r with
 |error e =>
   obtain⟨ea,E,H',rfl,fl,z⟩:=D;exact z pins _ _ E ea s' rfl U fl
 |ok fl =>
   cases fl with
   |ret u =>
     obtain⟨v,H',G,J,L,N⟩:=U.after D;subst L;exact⟨J,⟨V.ref (s.heap.objs.size+1),H',G,rfl,N⟩⟩
   |next=>exact False.elim D |brk=>exact False.elim D |cont=>exact False.elim D
abbrev XF:=DE0->Option (Str×DE0)
def Au(X:Cx)(G:Gd)(H0:Hp)(W:Addr->Prop)(H:Hp)(σ:St)(c:Str)(env':DE0):Prop:=∀W' H' C,Cl X.K c C->Step W H W' H'->Ok X.K G H0 W' env' σ H'->∀pins e s',XS X pins σ H' C e s'->X.xe (.ref e) s'
def mP(X:Cx)(G:Gd)(H0:Hp)(x:XF)(σ:St)(H:Hp):Prop:=DP X.K G H0 x (λW env c env'=> Au X G H0 W H σ c env') σ H
structure JX (X:Cx) (G:Gd) (H0:Hp) (e:Expr) (x:XF):Prop where
 out:PE X e (λσ H _=>mP X G H0 x σ H)
structure PU (X:Cx) (G:Gd) (H0:Hp) (es:i0) (x:XF):Prop where
 out:PA X es (λσ H _=>mP X G H0 x σ H)
structure Av (X:Cx) (G:Gd) (H0:Hp) (s:Stmt) (x:XF):Prop where
 out:PS X s (λ_ σ H=>mP X G H0 x σ H)
@[simp] def eG(x:XF)(g:FS):FS:=λe=>match x e with |some r=>↑(.xc r.1,r.2) |none=>g e
variable{x:XF}{g:FS}
def o8(V:eZ X G H0 s g)(Y:Av X G H0 s x):eZ X G H0 s (eG x g):=⟨λpins s' σ H D I Z=>by
 obtain⟨W,env,fl,env',ok,q,k⟩:=Z;unfold eG at q;cases e1:x env with
 |none=>rw[e1] at q;exact V.out pins s' σ H D I ⟨W,env,fl,env',ok,q,k⟩ |some r =>
   rw[e1] at q;cases q;exact Y.out pins s' σ H D I ⟨W,env,r.1,r.2,ok,e1,λW' H' C a st U=>k W' σ H' C a st U⟩⟩
def sj(h:JX X G H0 e x)(D:‹swapsWith e none pos.line X.env=pure false›):Av X G H0 (.Expr e pos) x:=⟨(CP h.out D).imp λ_ _ _ z=>z⟩
def n_(h:JX X G H0 e x):Av X G H0 (.Return ↑e pos) x:=⟨(sQ h.out).imp λ_ _ _ z=>z⟩
variable{c:Str}
def Cl.inj{D:Addr}(h:Cl K c C)(h':Cl K c D):C=D:=by
 unfold Cl at h h';rw[h] at h';cases h';rfl
def uE(K:kf)(O:Addr->Prop)(H:Hp)(ags:ll)(us:k6):Prop :=
 us.length=ags.length/\∀(j:Nat) (x:Ag) (u:V),ags[j]?=↑x->us[j]?=↑u->∃p vs,u=.ref p/\eE K H x.1 p vs/\bH K (gd O) dA H x.2 vs
def f_(K:kf)(m:ll->k7->k8)(x:ll->k7->ka):Sp:=λvs H Q E =>
 ∃(O:Addr->Prop) (ags:ll) (us:k6) (ds:k7) (ws:k6),vs=us++ws/\uE K O H ags us/\aK K H O ds ws /\
  ((∃d,m ags ds=↑d/\∀v H',bB H H'->a_ K H' (λa=>O a\/H a=none) d v->Q v H')\/∃c,x ags ds=↑c/\∀C H',Cl K c C->bB H H'->E (.ref C) none H')
def nc(n:Nat)(ags:ll)(ds:k7):DE0:=ags.map (λx=>↑(Sl.ro x.1 x.2))++lf (n-ags.length) ds
def cB(n p ar:Nat)(g:FS):ll->k7->k8:=λags ds=>if ags.length=p/\ds.length=ar then(match g (nc n ags ds) with |some (.rt d,_)=>↑d |some (.nx,_)=>some .non |_=>none) else none
def xQ(n p ar:Nat)(g:FS):ll->k7->ka:=λags ds=>if ags.length=p/\ds.length=ar then(match g (nc n ags ds) with |some (.xc c,_)=>↑c |_=>none) else none
variable{O O':Addr->Prop}
def qb(h:∀a,O a->O' a):(∀(d:D) (v:V),a_ K H O d v->a_ K H O' d v)/\∀(d:k7) (v:k6),aK K H O d v->aK K H O' d v :=
 ⟨λd v r=>r.mono (λ_ _ h=>h) λa us o q=>⟨h a o,q⟩,λd v r=>r.mono (λ_ _ h=>h) λa us o q=>⟨h a o,q⟩⟩
variable{ws:k6}{ds:k7}{N:h6}
theorem E_(I:uE K O H ags us)(r:aK K H O ds ws)(g:us.length<=N.length) :
  Ok K (gd λa=>O a\/H a=none) H dA (nc N.length ags ds) (start N (us++ws)) H:=by
 have V:=ze (N:=N.drop us.length) r;have U:=V.len;have es:start N (us++ws)=us.map some++start (N.drop us.length) ws:=by
  unfold start;rw[bw,cx,ak,fm,Nat.sub_sub]
 have b:nc N.length ags ds=ags.map (λx=>↑(Sl.ro x.1 x.2))++lf (N.drop us.length).length ds:=by unfold nc;rw[fm,I.1]
 rw[es,b];refine⟨bB.refl _,V.good,V.wl,λi s e=>?_,λi j h s2 v1 v2 a D _ k _ o _=>?_,?_⟩
 ·by_cases hi:i<ags.length
  ·rw[bg (by simpa using hi),b8] at e
   cases D:ags[i]? with
   |none=>rw[D] at e;cases e
   |some x =>
     rw[D] at e;cases e;have Y:us[i]?=↑(us[i]'(by rw[I.1];exact hi)):=by simp[I.1,hi]
     obtain⟨p,vs,h1,h2,c⟩:=I.2 i x _ D Y;refine⟨_,by rw[bg (by rw[ah,I.1];exact hi),b8,Y];rfl,p,vs,h1,λz=>z,h2,c.step (λa vs n z=>⟨n,z⟩) (λd v q=>(qb λa z=>⟨.inl z.1,λz=>z⟩).1 d v q) λd v q=>(qb λa z=>⟨.inl z.1,λz=>z⟩).2 d v q⟩
  ·rw[dc (by simpa using hi),ah] at e
   obtain⟨v,Z,f⟩:=V.slot _ s e;rw[<-I.1] at Z;exact⟨v,by rw[dc (by rw[ah,I.1];lia),ah];exact Z,f⟩
 ·by_cases hi:i<ags.length
  ·rw[bg (by simpa using hi),b8] at D
   cases q:ags[i]? with
   |none=>rw[q] at D;cases D
   |some x=>rw[q] at D;cases D;exact o.elim
  ·rw[dc (by simpa using hi)] at D
   obtain⟨d,_,rfl⟩:=tU D;exact o.elim
 ·rw[ak,ak,ah,ah,U,I.1]
variable{x qual:Str}{st:Stmt}{n ar:Nat}{P:Program}{w:World}{mg:Str->h8}{base:Heap}
theorem Fa{p:Nat}(F:h_ K x qual st f fd)(S:we N ps (i9 st))(m:n=N.length)(q:p+ar=ps.length)(Y:∀(cdv:Value) (A:Around) (outer:ip) (s:Shared) (H:Hp) (E:XK) (G:Gd) (H0:Hp),bC k (A.deeper (envOfC qual (i9 st) s.heap.objs.size f cdv)) ->
   gE (cI (dX P w) P w K mg base N qual (i9 st) f cdv A outer s H E) G H0 (pf st) g):cK P w K mg base (dX P w) (k+1) f fd ps (f_ K (cB n p ar g) (xQ n p ar g)):=by
 subst m;have t:ps.length<=N.length:=by have:=congrArg List.length S.pre;rw[fj] at this;lia
 have Z:∀ {O:Addr->Prop} {H:Hp} {ags:ll} {us:k6} {ds:k7} {ws:k6},uE K O H ags us->aK K H O ds ws->(ags.length=p/\ds.length=ar)->(us++ws).length=ps.length:=λU r h=>by rw[ak,U.1,h.1,<-r.length,h.2,q]
 refine F.okX S (λvs H Q E h=>?_) (λcdv A outer s H vs Q E u h=>?_)
 ·obtain⟨O,ags,us,ds,ws,rfl,U,r,h⟩:=h
  refine Z U r ?_;rcases h with⟨d,e,_⟩ | ⟨c,e,_⟩
  ·unfold cB at e;split at e
   ·assumption
   ·cases e
  ·unfold xQ at e;split at e
   ·assumption
   ·cases e
 ·obtain⟨O,ags,us,ds,ws,rfl,U,r,h⟩:=h
  refine⟨_,(Y cdv A outer s H E (gd λa=>O a\/H a=none) H u).out,?_⟩;rcases h with⟨d,e,k⟩ | ⟨c,e,k⟩
  ·unfold cB at e
   split at e;case isFalse=>cases e
   rename_i l;have j:=E_ (N:=N) U r (by rw[U.1,l.1];lia);split at e
   ·rename_i d' env' b
    cases e;exact⟨dA,_,_,env',j,b,λW' i v H' st I y=>k v H' I.stay (y.mono (λ_ _ h=>h) λa us o h=>⟨o.1,h⟩)⟩
   ·rename_i env' b
    cases e;exact⟨dA,_,_,env',j,b,λW' i H' st I=>k .non H' I.stay .non⟩
   ·cases e
  ·unfold xQ at e
   split at e;case isFalse=>cases e
   rename_i l;have j:=E_ (N:=N) U r (by rw[U.1,l.1];lia);split at e
   ·rename_i C env' b
    cases e;exact⟨dA,_,_,env',j,b,λW' i H' z B st I pins e s' xs=>zS xs (k z H' B I.stay)⟩
   ·cases e
def gG(K:kf)(m:ll->k7->ln)(x:ll->k7->Option (Str×ll)):Sp:=λvs H Q E =>
 ∃(G:Gd) (W:Addr->Prop) (Y:Hp) (ags:ll) (us:k6) (ds:k7) (ws:k6),vs=us++ws/\us.length=ags.length/\Ok K G Y W (t6 ags) (us.map some) H/\aK K H (Ow G W) ds ws /\
  ((∃d I, m ags ds = ↑(d, I) /\ ∀W' env' U v H', Step W H W' H' -> Ok K G Y W' env' U H' -> (∀(j : Nat) (x : Ag), I[j]? = ↑x -> env'[j]? = ↑↑(lI x j)) -> a_ K H' (Ow G W') d v -> Q v H') \/
   ∃c I,x ags ds=↑(c,I)/\∀C W' env' U H',Cl K c C->Step W H W' H'->Ok K G Y W' env' U H'->(∀(j:Nat) (x:Ag),I[j]?=↑x->env'[j]?=↑↑(lI x j))->E (.ref C) none H')
def mh(n:Nat)(ags:ll)(ds:k7):DE0:=t6 ags++lf (n-ags.length) ds
def fT(e:DE0):Nat->ic->Option ll
 |_,[]=>↑[] |j,_::r=>match e[j]? with |some ↑(.ag k ↑j' ps)=>if j'=j then(fT e (j+1) r).map λt=>(k,ps)::t else none |_=>none
def dB(n p ar:Nat)(g:FS):ll->k7->ln:=λags ds=>if ags.length=p/\ds.length=ar then(match g (mh n ags ds) with |some (.rt d,e)=>(fT e 0 (List.range p)).map λt=>(d,t) |some (.nx,e)=>(fT e 0 (List.range p)).map λt=>(.non,t) |_=>none) else none
def xL(n p ar:Nat)(g:FS):ll->k7->Option (Str×ll):=λags ds=>if ags.length=p/\ds.length=ar then(match g (mh n ags ds) with |some (.xc c,e)=>(fT e 0 (List.range p)).map λt=>(c,t) |_=>none) else none
theorem uF{e:DE0}:∀ {l:ic} {i:Nat} {ags:ll},fT e i l=↑ags->ags.length=l.length/\∀(j:Nat) (x:Ag),ags[j]?=↑x->e[i+j]?=↑↑(lI x (i+j))
 | [],_,_,h=>by cases h;exact⟨rfl,λj x z=>by simp at z⟩
 |_::r,i,ags,h=>by
   unfold fT at h;split at h
   ·rename_i k D ps q
    split at h
    ·rename_i I
     subst I;cases e2:fT e (D+1) r with
     |none=>rw[e2] at h;cases h
     |some t =>
       rw[e2] at h;cases h;obtain⟨h1,h2⟩:=uF e2;refine⟨by rw[ao,ao,h1],λj x z=>?_⟩;cases j with
       |zero=>simp at z;subst z;exact q |succ j =>
         have:=h2 j x (by simpa using z);rwa [show D+1+j=D+(j+1) by lia] at this
    ·cases h
   ·cases h
theorem Ml{I:Hp}(ok:Ok K G I W (t6 ags) (us.map some) H)(U:us.length=ags.length)(r:aK K H (Ow G W) ds ws) :
  Ok K G I W (mh N.length ags ds) (start N (us++ws)) H:=by
 have V:(t6 ags).length=us.length:=by rw[EW,U]
 have es:start N (us++ws)=us.map some++start (N.drop us.length) ws:=by
  unfold start;rw[bw,cx,ak,fm,Nat.sub_sub]
 have g:mh N.length ags ds=t6 ags++lf (N.drop us.length).length ds:=by unfold mh;rw[fm,U]
 have h:=ze (N:=N.drop us.length) (O:=Ow G W) r;rw[es,g];have D:∀ {i:Nat} {s:Sl},(t6 ags++lf (N.drop us.length).length ds)[i]?=↑↑s->(i<us.length/\(t6 ags)[i]?=↑↑s)\/(us.length<=i/\∃d,ds[i-us.length]?=↑d/\s=.sh d):=λ{i s} e=>by
  by_cases hi:i<us.length
  ·rw[bg ∅] at e;exact .inl ⟨hi,e⟩
  ·rw[dc ∅,V] at e
   obtain⟨d,q,z⟩:=tU e;exact .inr ⟨by lia,d,q,z⟩
 refine⟨ok.stay,ok.good,ok.wl,λi s e=>?_,λi j k s2 v1 v2 a l m Y Z b c=>?_,?_⟩
 ·rcases D e with⟨hi,e⟩ | ⟨hi,d,q,rfl⟩
  ·obtain⟨v,h1,h2⟩:=ok.slot i s e
   exact⟨v,by rw[bg (by simpa using hi)];exact h1,h2⟩
  ·obtain⟨v,h1,h2⟩:=r.get q
   refine⟨v,?_,h2⟩;rw[dc (by simpa using hi),ah];unfold start;rw[bg (by simpa using(aj.mp h1).1),b8,h1];rfl
 ·rcases D l with⟨hi,n⟩ | ⟨hi,d,q,rfl⟩
  ·rcases D m with⟨f,o⟩ | ⟨f,d,q,rfl⟩
   ·rw[bg (by simpa using hi)] at Y
    rw[bg (by simpa using f)] at Z;exact ok.uniq i j k s2 v1 v2 a n o Y Z b c
   ·exact c.elim
  ·exact b.elim
 ·rw[ak,ak,V,ah,h.len]
theorem Aw{p:Nat}(F:h_ K x qual st f fd)(S:we N ps (i9 st))(b:n=N.length)(i:p+ar=ps.length)(U:∀(cdv:Value) (A:Around) (outer:ip) (s:Shared) (H:Hp) (E:XK) (G:Gd) (H0:Hp),bC k (A.deeper (envOfC qual (i9 st) s.heap.objs.size f cdv)) ->
   gE (cI (dX P w) P w K mg base N qual (i9 st) f cdv A outer s H E) G H0 (pf st) g):cK P w K mg base (dX P w) (k+1) f fd ps (gG K (dB n p ar g) (xL n p ar g)):=by
 subst b;refine F.okX S (λvs H Q E h=>?_) (λcdv A outer s H vs Q E l h=>?_)
 ·obtain⟨G,W,a,ags,us,ds,ws,rfl,Y,ok,r,h⟩:=h
  have:ags.length=p/\ds.length=ar:=by
   rcases h with⟨d,t,e,_⟩ | ⟨c,t,e,_⟩
   ·unfold dB at e;split at e
    ·assumption
    ·cases e
   ·unfold xL at e;split at e
    ·assumption
    ·cases e
  rw[ak,Y,this.1,<-r.length,this.2,i]
 ·obtain⟨G,W,a,ags,us,ds,ws,rfl,Y,ok,r,h⟩:=h
  refine⟨_,(U cdv A outer s H E G a l).out,?_⟩;have Z:=Ml (N:=N) ok Y r;rcases h with⟨d,t,e,k⟩ | ⟨c,t,e,k⟩
  ·unfold dB at e
   split at e;case isFalse=>cases e
   split at e
   ·rename_i d' env' V
    cases e2:fT env' 0 (List.range p) with
    |none=>rw[e2] at e;cases e
    |some t' =>
      rw[e2] at e;cases e;exact⟨W,_,_,env',Z,V,λW' D v H' st I m=>k W' env' D v H' st I (λj x z=>by have:=(uF e2).2 j x z;rwa [lh] at this) m⟩
   ·rename_i env' V
    cases e2:fT env' 0 (List.range p) with
    |none=>rw[e2] at e;cases e
    |some t' =>
      rw[e2] at e;cases e;exact⟨W,_,_,env',Z,V,λW' D H' st I=>k W' env' D .non H' st I (λj x z=>by have:=(uF e2).2 j x z;rwa [lh] at this) .non⟩
   ·cases e
  ·unfold xL at e
   split at e;case isFalse=>cases e
   split at e
   ·rename_i u env' V
    cases e2:fT env' 0 (List.range p) with
    |none=>rw[e2] at e;cases e
    |some t' =>
      rw[e2] at e;cases e;exact⟨W,_,_,env',Z,V,λW' D H' o q st I pins e s' xs=>zS xs (k o W' env' D H' q st I λj x z=>by have:=(uF e2).2 j x z;rwa [lh] at this)⟩
   ·cases e
def eQ(env:DE0):ic->Option ll
 | []=>↑[] |i::r=>match env[i]? with
   |some ↑(.ag k _ ps)=>(eQ env r).map λt=>(k,ps)::t |some ↑(.ro k ps)=>(eQ env r).map λt=>(k,ps)::t |_=>none
def fD(env:DE0)(is:ic):Prop:=∀i∈is,∃s,env[i]?=↑↑s
instance (env:DE0) (is:ic):Decidable (fD env is):=Classical.propDecidable _
variable{ps:k9}{as:ia}
def aW.ro(h:aW K G W H ps as us):bH K (gd (Ow G W)) dA H ps us:=by
 induction h with
 |nil=>exact .nil |d q _ ih=>exact .d ((qb λa z=>⟨z,λz=>z⟩).1 _ _ q) ih |o hW hl q _ ih=>exact .o (λz=>z) hl ((qb λa z=>⟨z,λz=>z⟩).2 _ _ q) ih
def bH.ro(h:bH K G W H ps us):bH K (gd (Ow G W)) dA H ps us :=
 h.step (λa vs _ z=>⟨λz=>z,z⟩) (λd v q=>(qb λa z=>⟨z,λz=>z⟩).1 d v q) λd v q=>(qb λa z=>⟨z,λz=>z⟩).2 d v q
def Ok.roAll(ok:Ok K G H0 W env σ H):∀ {is:ic} {ags:ll} {us:k6},eQ env is=↑ags->us.length=is.length->(∀(j i:Nat),is[j]?=↑i->∃u,us[j]?=↑u/\σ[i]?=↑↑u)->uE K (Ow G W) H ags us
 | [],_,us,h,hl,_=>by cases h;exact⟨hl,λj x u e=>by simp at e⟩
 |i::r,ags,us,h,hl,hu=>by
   cases us with
   |nil=>simp at hl |cons u us =>
     obtain⟨o,b,c⟩:=hu 0 i rfl;simp at b;subst b;have Y:∃k ps t,ags=(k,ps)::t/\eQ env r=↑t/\∃p vs,u=.ref p/\eE K H k p vs/\bH K (gd (Ow G W)) dA H ps vs:=by
      unfold eQ at h;split at h
      ·rename_i k l ps q
       cases h2:eQ env r with
       |none=>rw[h2] at h;cases h
       |some t =>
         rw[h2] at h;cases h;obtain⟨v,D,p,as,vs,rfl,_,_,_,I,U⟩:=ok.slot i _ q;rw[c] at D;cases D;exact⟨k,ps,t,rfl,rfl,p,vs,rfl,I,U.ro⟩
      ·rename_i k ps q
       cases h2:eQ env r with
       |none=>rw[h2] at h;cases h
       |some t =>
         rw[h2] at h;cases h;obtain⟨v,D,p,vs,rfl,_,I,U⟩:=ok.slot i _ q;rw[c] at D;cases D;exact⟨k,ps,t,rfl,rfl,p,vs,rfl,I,U.ro⟩
      ·cases h
     obtain⟨k,ps,t,rfl,h2,p,vs,rfl,I,U⟩:=Y;obtain⟨d,f⟩:=ok.roAll (us:=us) h2 (by simpa using hl) λj g e=>by
      obtain⟨u,m,n⟩:=hu (j+1) g (by simpa using e);exact⟨u,by simpa using m,n⟩
     refine⟨by rw[ao,ao,d],λj x v Z a=>?_⟩;cases j with
     |zero=>simp at Z a;subst Z;subst a;exact⟨p,vs,rfl,I,U⟩ |succ j=>exact f j x v (by simpa using Z) (by simpa using a)
variable{v:FV}
def Ok.newRep(ok:Ok K G H0 W env σ H){d:D}{v:V}(r:a_ K H' (λa=>Ow G W a\/H a=none) d v):a_ K H' (Ow G W) d v :=
 r.mono (λ_ _ h=>h) λa us o h=>⟨o.elim id λz=>⟨ok.good a (ok.stay.free z),λw=>by obtain⟨_,m,q⟩:=ok.wl a w;rw[z] at q;cases q⟩,h⟩
def mQ(X:Cx)(G:Gd)(H0:Hp)(is:ic)(F:FA):TA:=λσ H Q=>∃W env ds env',Ok X.K G H0 W env σ H/\fD env is/\F env=↑(ds,env') /\
 ∀W' us ws H',Step W H W' H'->Ok X.K G H0 W' env' σ H'->us.length=is.length->(∀(j i:Nat),is[j]?=↑i->∃u,us[j]?=↑u/\σ[i]?=↑↑u)->aK X.K H' (Ow G W') ds ws->Q (us++ws) H'
structure mR (X:Cx) (G:Gd) (H0:Hp) (is:ic) (es:i0) (F:FA):Prop where
 out:PA X es (mQ X G H0 is F)
variable{F:FA}
def l4(h:fG X G H0 es F):mR X G H0 [] es F:=⟨h.out.imp λσ H Q ⟨W,env,ds,env',ok,_,q,k⟩=>⟨W,env,ds,env',ok,q,λW' vs H' st D r=>k W' [] vs H' st D rfl (λj i e=>by simp at e) r⟩⟩
variable{Nn Cn:h6}{i:Nat}
def qV(h:mR X G H0 is es F)(an:bR Nn Cn X)(D:‹Nn[i]?=↑x›)(I:‹starEach (.Name x pos::es) X.env=(false,eval (.Name x pos) X.env)::starEach es X.env›):mR X G H0 (i::is) (.Name x pos::es) F :=
 ⟨(qu ((an.a D).pe) h.out I).imp λσ H Q b=>by
  obtain⟨W,env,ds,env',ok,Y,q,k⟩:=b;obtain⟨s,I⟩:=Y i ⋯;obtain⟨v,Z,_⟩:=ok.slot i s I;refine⟨v,Z,W,env,ds,env',ok,λU hi=>Y U (by simp[hi]),q,λW' us ws H' st V c d r=>?_⟩;refine k W' (v::us) ws H' st V (by rw[ao,ao,c]) (λj U e=>?_) r;cases j with
  |zero=>simp at e;subst e;exact⟨v,rfl,Z⟩ |succ j=>obtain⟨u,f,g⟩:=d j U (by simpa using e);exact⟨u,by simpa using f,g⟩⟩
def ky(m:ll->k7->k8)(is:ic)(F:FA):FE:=λe=>if fD e is then(F e).bind λr=>(eQ r.2 is).bind λags=>(m ags r.1).map λd=>(d,r.2) else none
def p9(x:ll->k7->ka)(is:ic)(F:FA):XF:=λe=>if fD e is then(F e).bind λr=>(eQ r.2 is).bind λags=>(x ags r.1).map λc=>(c,r.2) else none
variable{m:ll->k7->k8}{xx:ll->k7->ka}
def Ax:∀σ H Q,tD X.K G H0 (ky m is F) σ H Q->mQ X G H0 is F σ H λvs H1=>f_ X.K m xx vs H1 Q (jK X σ):=λσ H Q U=>by
 obtain⟨W,env,d,env',ok,q,k⟩:=U;unfold ky at q;split at q;case isFalse=>cases q
 rename_i I;cases e1:F env with
 |none=>rw[e1] at q;cases q
 |some r =>
   rw[e1,ac] at q;cases e2:eQ r.2 is with
   |none=>rw[e2] at q;cases q
   |some ags =>
     rw[e2,ac] at q;cases e3:m ags r.1 with
     |none=>rw[e3] at q;cases q
     |some d' =>
       rw[e3] at q;cases q;exact⟨W,env,r.1,r.2,ok,I,e1,λW1 us ws H1 V D Y Z a=>⟨Ow G W1,ags,us,r.1,ws,rfl,D.roAll e2 Y Z,a,.inl ⟨_,e3,λv H' sm b=>k W1 v H' (V.trans (Step.same sm)) (D.same sm) (D.newRep b)⟩⟩⟩
def Mm:∀σ H (Q:VK),mP X G H0 (p9 xx is F) σ H->mQ X G H0 is F σ H λvs H1=>f_ X.K m xx vs H1 Q (jK X σ):=λσ H Q V=>by
 obtain⟨W,env,c,env',ok,q,k⟩:=V;unfold p9 at q;split at q;case isFalse=>cases q
 rename_i U;cases e1:F env with
 |none=>rw[e1] at q;cases q
 |some r =>
   rw[e1,ac] at q;cases e2:eQ r.2 is with
   |none=>rw[e2] at q;cases q
   |some ags =>
     rw[e2,ac] at q;cases e3:xx ags r.1 with
     |none=>rw[e3] at q;cases q
     |some c' =>
       rw[e3] at q;cases q;refine⟨W,env,r.1,r.2,ok,U,e1,λW1 us ws H1 Y D Z a b=>⟨Ow G W1,ags,us,r.1,ws,rfl,D.roAll e2 Z a,b,.inr ⟨_,e3,λC H' d sm pins H2 s2 f ea s' e I fl=>?_⟩⟩⟩;cases e;exact k W1 H' C d (Y.trans (Step.same sm)) (D.same sm) pins ea s' (.inl ⟨s2,H2,I,fl⟩)
variable{jr:Nat}{p':Pos}
def sv(c:bO X.prog X.w X.K X.mg X.base (dX X.prog X.w) x k (f_ X.K m xx))(V:bC jr X.A)(Y:mR X G H0 is (e::es) F)(D:k<=jr:=by decide)(Z:Gl X x:=by walk_at "g")(a:‹starEach (e::es) X.env=(false,eval e X.env)::starEach es X.env›)(I:‹(backTo pos (starEach es X.env)).any (·.1)=false›) :
  aT X G H0 (.Call (.Name x p') (e::es) [] pos) (ky m is F):=let ⟨_,_,_,b,d,f,g,U⟩:=c;⟨(qU b (V.mono D) Z d f g Y.out U a I).imp Ax⟩
def sg(c:bO X.prog X.w X.K X.mg X.base (dX X.prog X.w) x k (f_ X.K m xx))(V:bC jr X.A)(Y:mR X G H0 is (e::es) F)(D:k<=jr:=by decide)(Z:Gl X x:=by walk_at "g")(a:‹starEach (e::es) X.env=(false,eval e X.env)::starEach es X.env›)(I:‹(backTo pos (starEach es X.env)).any (·.1)=false›) :
  JX X G H0 (.Call (.Name x p') (e::es) [] pos) (p9 xx is F):=let ⟨_,_,_,b,d,f,g,U⟩:=c;⟨(qU b (V.mono D) Z d f g Y.out U a I).imp Mm⟩
instance (a b:List AK):Decidable (a=b):=Classical.propDecidable _
def ni(m:ll->k7->ln)(is:ic)(F:FA):FE:=λe=>if fD e is then(F e).bind λr=>(dY r.2 is).bind λags=>(m ags r.1).bind λq=>if q.2.map (·.1)=ags.map (·.1) then ↑(q.1,dJ r.2 is q.2) else none else none
def qk(x:ll->k7->Option (Str×ll))(is:ic)(F:FA):XF:=λe=>if fD e is then(F e).bind λr=>(dY r.2 is).bind λags=>(x ags r.1).bind λq=>if q.2.map (·.1)=ags.map (·.1) then ↑(q.1,dJ r.2 is q.2) else none else none
variable{a b:Expr}
def Fb{a b:ll}(h:b.map (·.1)=a.map (·.1)):b.length=a.length/\∀(j:Nat) (x y:Ag),a[j]?=↑x->b[j]?=↑y->y.1=x.1:=by
 refine⟨by simpa using congrArg List.length h,λj x y D I=>?_⟩;have:=congrArg (λl:List AK=>l[j]?) h;simp[b8,D,I,Option.some.injEq] at this;exact this
variable{m:ll->k7->ln}{xx:ll->k7->Option (Str×ll)}
theorem Ay(nd:is.Nodup):∀σ H Q,tD X.K G H0 (ni m is F) σ H Q->mQ X G H0 is F σ H λvs H1=>gG X.K m xx vs H1 Q (jK X σ):=λσ H Q f=>by
 obtain⟨W,env,d,env',ok,q,k⟩:=f;unfold ni at q;split at q;case isFalse=>cases q
 rename_i U;cases e1:F env with
 |none=>rw[e1] at q;cases q
 |some r =>
   rw[e1,ac] at q;cases e2:dY r.2 is with
   |none=>rw[e2] at q;cases q
   |some ags =>
     rw[e2,ac] at q;cases e3:m ags r.1 with
     |none=>rw[e3] at q;cases q
     |some z =>
       rw[e3,ac] at q;split at q;case isFalse=>cases q
       rename_i V;cases q;obtain⟨g,i⟩:=Fb V;refine⟨W,env,r.1,r.2,ok,U,e1,λW1 us ws H1 l D N n p=>?_⟩;obtain⟨O,I,s,b,t,Y⟩:=D.lend nd e2;have w:I=us:=by
        apply ff;intro j;by_cases c:j<is.length
        ·obtain⟨u,x,y⟩:=n j is[j] (by simp[c])
         obtain⟨P,A,e⟩:=b j is[j] (by simp[c]);rw[y] at e;cases e;rw[x,A]
        ·rw[de ∅,de ∅]
       subst w;refine⟨_,_,_,ags,I,r.1,ws,rfl,by rw[s,nZ e2],Y,?_,.inl ⟨_,_,e3,λW' env' B v H' st Z C E=>?_⟩⟩
       ·exact p.mono (λ_ _ h=>h) λa us o h=>⟨⟨⟨o.1,λz=>absurd z o.2⟩,λz=>o.2 (D.lentW z)⟩,h⟩
       ·obtain⟨J,L,M⟩:=D.unlend nd e2 b t (by rw[g,nZ e2]) i st Z C
        exact k _ v H' (l.trans L) J (M E)
theorem Az(nd:is.Nodup):∀σ H (Q:VK),mP X G H0 (qk xx is F) σ H->mQ X G H0 is F σ H λvs H1=>gG X.K m xx vs H1 Q (jK X σ):=λσ H Q g=>by
 obtain⟨W,env,d,env',ok,q,k⟩:=g;unfold qk at q;split at q;case isFalse=>cases q
 rename_i V;cases e1:F env with
 |none=>rw[e1] at q;cases q
 |some r =>
   rw[e1,ac] at q;cases e2:dY r.2 is with
   |none=>rw[e2] at q;cases q
   |some ags =>
     rw[e2,ac] at q;cases e3:xx ags r.1 with
     |none=>rw[e3] at q;cases q
     |some z =>
       rw[e3,ac] at q;split at q;case isFalse=>cases q
       rename_i Y;cases q;obtain⟨i,l⟩:=Fb Y;refine⟨W,env,r.1,r.2,ok,V,e1,λW1 us ws H1 n D O p s=>?_⟩;obtain⟨P,U,t,c,v,Z⟩:=D.lend nd e2;have w:U=us:=by
        apply ff;intro j;by_cases e:j<is.length
        ·obtain⟨u,x,y⟩:=p j is[j] (by simp[e])
         obtain⟨R,A,f⟩:=c j is[j] (by simp[e]);rw[y] at f;cases f;rw[x,A]
        ·rw[de ∅,de ∅]
       subst w;refine⟨_,_,_,ags,U,r.1,ws,rfl,by rw[t,nZ e2],Z,?_,.inr ⟨_,_,e3,λC W' env' B H' E st b J pins H2 s2 S ea s' L I fl=>?_⟩⟩
       ·exact s.mono (λ_ _ h=>h) λa us o h=>⟨⟨⟨o.1,λz=>absurd z o.2⟩,λz=>o.2 (D.lentW z)⟩,h⟩
       ·cases L
        obtain⟨M,N,T⟩:=D.unlend nd e2 c v (by rw[i,nZ e2]) l st b J;exact k _ H' C E (n.trans N) M pins ea s' (.inl ⟨s2,H2,I,fl⟩)
def A0(c:bO X.prog X.w X.K X.mg X.base (dX X.prog X.w) x k (gG X.K m xx))(V:bC jr X.A)(Y:mR X G H0 is (e::es) F)(D:k<=jr:=by decide)(Z:Gl X x:=by walk_at "g")(nd:is.Nodup:=by decide)(a:‹starEach (e::es) X.env=(false,eval e X.env)::starEach es X.env›)(I:‹(backTo pos (starEach es X.env)).any (·.1)=false›) :
  aT X G H0 (.Call (.Name x p') (e::es) [] pos) (ni m is F):=let ⟨_,_,_,b,d,f,g,U⟩:=c;⟨(qU b (V.mono D) Z d f g Y.out U a I).imp (Ay nd)⟩
def Mn(c:bO X.prog X.w X.K X.mg X.base (dX X.prog X.w) x k (gG X.K m xx))(V:bC jr X.A)(Y:mR X G H0 is (e::es) F)(D:k<=jr:=by decide)(Z:Gl X x:=by walk_at "g")(nd:is.Nodup:=by decide)(a:‹starEach (e::es) X.env=(false,eval e X.env)::starEach es X.env›)(I:‹(backTo pos (starEach es X.env)).any (·.1)=false›) :
  JX X G H0 (.Call (.Name x p') (e::es) [] pos) (qk xx is F):=let ⟨_,_,_,b,d,f,g,U⟩:=c;⟨(qU b (V.mono D) Z d f g Y.out U a I).imp (Az nd)⟩
def kK(κ:AK)(e:DE0)(i:Nat):Prop:=(∃l ps,e[i]?=↑↑(.ag κ l ps))\/∃ps,e[i]?=↑↑(.ro κ ps)
instance (κ:AK) (e:DE0) (i:Nat):Decidable (kK κ e i):=Classical.propDecidable _
def fK(κ:AK)(i:Nat)(f:FE):FE:=λe=>if kK κ e i then f e else none
def xK(κ:AK)(i:Nat)(f:XF):XF:=λe=>if kK κ e i then f e else none
def kK.at{K:kf}{W:Addr->Prop}{H:Hp}{env:DE0}{σ:St}{c:Str}{fs:h6}{C:Addr}(ok:Ok K G H0 W env σ H)(h:kK (.ins false c fs) env i)(Y:Cl K c C):∃p dx us,σ[i]?=↑↑(.ref p)/\H p=↑(.ins C dx (fs.zip us))/\fs.length=us.length:=by
 rcases h with⟨l,ps,e⟩ | ⟨ps,e⟩
 ·obtain⟨v,I,p,as,us,rfl,_,_,_,⟨Z,dx,U,D,V⟩,_⟩:=ok.slot i _ e
  rw[Cl.inj U Y] at D;exact⟨p,dx,us,I,D,V⟩
 ·obtain⟨v,I,p,us,rfl,_,⟨Z,dx,U,D,V⟩,_⟩:=ok.slot i _ e
  rw[Cl.inj U Y] at D;exact⟨p,dx,us,I,D,V⟩
variable{m:Str}{fs:h6}
def Fc(h:m∉fs):(fs.zip us).lookup m=none:=by
 induction fs generalizing us with
 |nil=>rfl |cons f r ih =>
   cases us with
   |nil=>rfl |cons u us =>
     rw[jy,d5];have:(m==f)=false:=by simp;exact λz=>h (by simp[z])
     rw[this];exact ih λz=>h (by simp[z])
variable{f:FE}
def uG(V:Cl X.K c C)(Y:m∉fs)(h:∀σ H Q,tD X.K G H0 f σ H Q->mQ X G H0 [i] F σ H λvs H1=>sp vs H1 Q (jK X σ)):∀σ H Q,tD X.K G H0 (fK (.ins false c fs) i f) σ H Q->uD X C m sp (jO i) (lG X.K G H0 F) σ H Q:=λσ H Q Z=>by
 obtain⟨W,env,d,env',ok,q,k⟩:=Z;unfold fK at q;split at q;case isFalse=>cases q
 rename_i a;obtain⟨p,dx,us,U,b,_⟩:=a.at ok V;obtain⟨g,env0,ds,env1,D,_,l,n⟩:=h σ H Q ⟨W,env,d,env',ok,q,k⟩;refine⟨_,U,p,dx,_,rfl,b,Fc Y,g,env0,ds,env1,D,l,λW' ws H' st I r=>?_⟩;exact n W' [.ref p] ws H' st I rfl (λj o e=>by cases j with |zero=>simp at e;subst e;exact⟨_,rfl,U⟩ |succ j=>simp at e) r
def Fd(V:Cl X.K c C)(Y:m∉fs){f:XF}(h:∀σ H (Q:VK),mP X G H0 f σ H->mQ X G H0 [i] F σ H λvs H1=>sp vs H1 Q (jK X σ)):∀σ H (Q:VK),mP X G H0 (xK (.ins false c fs) i f) σ H->uD X C m sp (jO i) (lG X.K G H0 F) σ H Q:=λσ H Q Z=>by
 obtain⟨W,env,d,env',ok,q,k⟩:=Z;unfold xK at q;split at q;case isFalse=>cases q
 rename_i a;obtain⟨p,dx,us,U,b,_⟩:=a.at ok V;obtain⟨g,env0,ds,env1,D,_,l,n⟩:=h σ H Q ⟨W,env,d,env',ok,q,k⟩;refine⟨_,U,p,dx,_,rfl,b,Fc Y,g,env0,ds,env1,D,l,λW' ws H' st I r=>?_⟩;exact n W' [.ref p] ws H' st I rfl (λj o e=>by cases j with |zero=>simp at e;subst e;exact⟨_,rfl,U⟩ |succ j=>simp at e) r
variable{xx:ll->k7->ka}{cn:Str}{mm:ll->k7->k8}
def Mp(c:dR X.prog X.w X.K X.mg X.base cn m k (f_ X.K mm xx))(Z:bC jr X.A)(b:fG X G H0 (e::es) F)(an:bR Nn Cn X)(D:k<=jr:=by decide)(I:‹Nn[i]?=↑x›)(d:m∉fs:=by decide +kernel)(U:‹starEach (e::es) X.env=(false,eval e X.env)::starEach es X.env›)(V:‹(backTo pos (starEach es X.env)).any (·.1)=false›)(g:eval (.Call (.Attribute (.Name x p') m apos) (e::es) [] pos) X.env=(do
   let ov <-eval (.Name x p') X.env
   standAt apos.atName
   let (f,first) <-holding [ov] (getMethod ov m pl)
   callWith pos f first (backTo pos (starEach (e::es) X.env)) (backToKw pos (keywordEach [] X.env))):=by rfl) :
  aT X G H0 (.Call (.Attribute (.Name x p') m apos) (e::es) [] pos) (fK (.ins false cn fs) i (ky mm [i] F)):=let ⟨_,_,_,_,c,Y,h,j,l⟩:=c;⟨(Ar ((an.a I).pe) c Y h (Z.mono D) j b.out U V g).imp (uG l d Ax)⟩
def t4(c:dR X.prog X.w X.K X.mg X.base cn m k (f_ X.K mm xx))(Y:bC jr X.A)(an:bR Nn Cn X)(D:k<=jr:=by decide)(I:‹Nn[i]?=↑x›)(Z:m∉fs:=by decide +kernel)(b:eval (.Call (.Attribute (.Name x p') m apos) [] [] pos) X.env=(do
   let ov <-eval (.Name x p') X.env
   standAt apos.atName
   let (f,first) <-holding [ov] (getMethod ov m pl)
   callWith pos f first (backTo pos (starEach [] X.env)) (backToKw pos (keywordEach [] X.env))):=by rfl) :
  aT X G H0 (.Call (.Attribute (.Name x p') m apos) [] [] pos) (fK (.ins false cn fs) i (ky mm [i] aC)):=let ⟨_,_,_,_,c,U,d,e,g⟩:=c;⟨(As ((an.a I).pe) c U d (Y.mono D) e b).imp λσ H Q h=>by
   obtain⟨j,h1,h2⟩:=uG (F:=aC) g Z (Ax (xx:=xx)) σ H Q h;obtain⟨a,dx,V,l,n,o,W,env,ds,env',ok,q,kk⟩:=h2;cases q;exact⟨j,h1,a,dx,V,l,n,o,kk W [] H Step.refl ok .nil⟩⟩
variable{xx:ll->k7->Option (Str×ll)}{mm:ll->k7->ln}
def mS(c:dR X.prog X.w X.K X.mg X.base cn m k (gG X.K mm xx))(Z:bC jr X.A)(b:fG X G H0 (e::es) F)(an:bR Nn Cn X)(D:k<=jr:=by decide)(I:‹Nn[i]?=↑x›)(d:m∉fs:=by decide +kernel)(U:‹starEach (e::es) X.env=(false,eval e X.env)::starEach es X.env›)(V:‹(backTo pos (starEach es X.env)).any (·.1)=false›)(g:eval (.Call (.Attribute (.Name x p') m apos) (e::es) [] pos) X.env=(do
   let ov <-eval (.Name x p') X.env
   standAt apos.atName
   let (f,first) <-holding [ov] (getMethod ov m pl)
   callWith pos f first (backTo pos (starEach (e::es) X.env)) (backToKw pos (keywordEach [] X.env))):=by rfl) :
  aT X G H0 (.Call (.Attribute (.Name x p') m apos) (e::es) [] pos) (fK (.ins false cn fs) i (ni mm [i] F)):=let ⟨_,_,_,_,c,Y,h,j,l⟩:=c;⟨(Ar ((an.a I).pe) c Y h (Z.mono D) j b.out U V g).imp (uG l d (Ay ⋯))⟩
def A1(c:dR X.prog X.w X.K X.mg X.base cn m k (gG X.K mm xx))(Z:bC jr X.A)(b:fG X G H0 (e::es) F)(an:bR Nn Cn X)(D:k<=jr:=by decide)(I:‹Nn[i]?=↑x›)(d:m∉fs:=by decide +kernel)(U:‹starEach (e::es) X.env=(false,eval e X.env)::starEach es X.env›)(V:‹(backTo pos (starEach es X.env)).any (·.1)=false›)(g:eval (.Call (.Attribute (.Name x p') m apos) (e::es) [] pos) X.env=(do
   let ov <-eval (.Name x p') X.env
   standAt apos.atName
   let (f,first) <-holding [ov] (getMethod ov m pl)
   callWith pos f first (backTo pos (starEach (e::es) X.env)) (backToKw pos (keywordEach [] X.env))):=by rfl) :
  JX X G H0 (.Call (.Attribute (.Name x p') m apos) (e::es) [] pos) (xK (.ins false cn fs) i (qk xx [i] F)):=let ⟨_,_,_,_,c,Y,h,j,l⟩:=c;⟨(Ar ((an.a I).pe) c Y h (Z.mono D) j b.out U V g).imp (Fd l d (Az ⋯))⟩
def Fe(c:dR X.prog X.w X.K X.mg X.base cn m k (gG X.K mm xx))(Y:bC jr X.A)(an:bR Nn Cn X)(D:k<=jr:=by decide)(I:‹Nn[i]?=↑x›)(Z:m∉fs:=by decide +kernel)(b:eval (.Call (.Attribute (.Name x p') m apos) [] [] pos) X.env=(do
   let ov <-eval (.Name x p') X.env
   standAt apos.atName
   let (f,first) <-holding [ov] (getMethod ov m pl)
   callWith pos f first (backTo pos (starEach [] X.env)) (backToKw pos (keywordEach [] X.env))):=by rfl) :
  aT X G H0 (.Call (.Attribute (.Name x p') m apos) [] [] pos) (fK (.ins false cn fs) i (ni mm [i] aC)):=let ⟨_,_,_,_,c,U,d,e,g⟩:=c;⟨(As ((an.a I).pe) c U d (Y.mono D) e b).imp λσ H Q h=>by
   obtain⟨j,h1,h2⟩:=uG (F:=aC) g Z (Ay (xx:=xx) ⋯) σ H Q h;obtain⟨a,dx,V,l,n,o,W,env,ds,env',ok,q,kk⟩:=h2;cases q;exact⟨j,h1,a,dx,V,l,n,o,kk W [] H Step.refl ok .nil⟩⟩
def Ff(c:dR X.prog X.w X.K X.mg X.base cn m k (gG X.K mm xx))(Y:bC jr X.A)(an:bR Nn Cn X)(D:k<=jr:=by decide)(I:‹Nn[i]?=↑x›)(Z:m∉fs:=by decide +kernel)(b:eval (.Call (.Attribute (.Name x p') m apos) [] [] pos) X.env=(do
   let ov <-eval (.Name x p') X.env
   standAt apos.atName
   let (f,first) <-holding [ov] (getMethod ov m pl)
   callWith pos f first (backTo pos (starEach [] X.env)) (backToKw pos (keywordEach [] X.env))):=by rfl) :
  JX X G H0 (.Call (.Attribute (.Name x p') m apos) [] [] pos) (xK (.ins false cn fs) i (qk xx [i] aC)):=let ⟨_,_,_,_,c,U,d,e,g⟩:=c;⟨(As ((an.a I).pe) c U d (Y.mono D) e b).imp λσ H Q h=>by
   obtain⟨j,h1,h2⟩:=Fd (F:=aC) g Z (Az (m:=mm) ⋯) σ H Q h;obtain⟨a,dx,V,l,n,o,W,env,ds,env',ok,q,kk⟩:=h2;cases q;exact⟨j,h1,a,dx,V,l,n,o,kk W [] H Step.refl ok .nil⟩⟩
variable{z:Int}
def xh(D:∃t,X.mg x=↑(.int z t))(I:Gl X x:=by walk_at "g")(hd:(x==("__debug__" : Str))=false:=by decide +kernel):aT X G H0 (.Name x pos) (fC ↥z):=by
 obtain⟨t,D⟩:=D;exact kT (CN I D (v:=.int z) ⟨t,rfl⟩ hd) λ_ _=>.int _
abbrev FV:=DE0->Option DE0
def tV(X:Cx)(G:Gd)(H0:Hp)(v:FV):TE:=λσ H Q=>∃W env env',Ok X.K G H0 W env σ H/\v env=↑env'/\∀W' z H',Step W H W' H'->Ok X.K G H0 W' env' σ H'->Q (.str z) H'
structure JV (X:Cx) (G:Gd) (H0:Hp) (e:Expr) (v:FV):Prop where
 out:PE X e (tV X G H0 v)
def uH{z:Str}:JV X G H0 (.Constant (.str z) j pos) some:=⟨CM.imp λσ H Q ⟨W,env,env',ok,q,k⟩=>by cases q;exact k W z H Step.refl ok⟩
structure A2 (X:Cx) (G:Gd) (H0:Hp) (e:Expr) (v:FV):Prop where
 out:∀(pins:kv) (s:Shared) (σ:St) (H:Hp) (Q:Nat->Hp->Prop),Inv X pins σ H s->(∃W env env',Ok X.K G H0 W env σ H/\v env=↑env'/\∀n W' H',n<=1000->Step W H W' H'->Ok X.K G H0 W' env' σ H'->Q n H') ->
  wpAny (model X.prog X.w) X.A (eval e X.env) (λu s'=>∃z t H',u=.str z t/\Inv X pins σ H' s'/\Q z.length H') X.xe s
def za{z:Str}(D:z.length<=1000:=by decide):A2 X G H0 (.Constant (.str z) j pos) some:=⟨λpins s σ H Q I U=>by
 obtain⟨W,env,env',ok,q,k⟩:=U;cases q;exact Calls.Constant_str ⟨z,_,H,rfl,I.tok _,k _ W H D Step.refl ok⟩⟩
def vInt(f:FE):FV:=λe=>(f e).bind λr=>match r.1 with | .int z=>if z.natAbs<1000000 then ↑r.2 else none |_=>none
theorem oq(h:aT X G H0 a f):A2 X G H0 (.FormattedValue a (-1) none pos) (vInt f):=⟨λpins s σ H Q I U=>by
 obtain⟨W,env,env',ok,q,k⟩:=U;unfold vInt at q;cases e1:f env with
 |none=>rw[e1] at q;cases q
 |some r =>
   rw[e1,ac] at q;split at q;case h_2=>cases q
   rename_i z d;split at q;case isFalse=>cases q
   rename_i Y;cases q;refine FormattedValue_plain (bI (h.out pins s σ H (λv H1=>v=.int z/\∀n,n<=1000->Q n H1) I ⟨W,env,r.1,r.2,ok,e1,λW1 v H1 Z V b=>⟨by rw[d] at b;exact b.int_,λn e=>k n W1 H1 e Z V⟩⟩) λu Z U=>?_);obtain⟨v,H1,g,i,j,l⟩:=U;subst j;obtain⟨t,rfl⟩:=i;have D:z.natAbs.log2<1920:=by
    by_cases c:z.natAbs=0
    ·rw[c];decide
    ·exact(Nat.log2_lt c).mpr (b6 Y (d7 (by decide:(1000000:Nat)<=2 ^ 20) (Nat.pow_le_pow_right (by decide) (by decide))))
   refine formatField_int_small D ⟨_,_,H1,rfl,(g.tok _).tok _,l _ ?_⟩;have:(toString z).length<=6+1:=int_text_length_le10 (by decide) Y;rw[PySem.ofString_length]
   lia⟩
structure uI (X:Cx) (G:Gd) (H0:Hp) (es:i0) (v:FV):Prop where
 out:∀(acc:Str) (pins:kv) (s:Shared) (σ:St) (H:Hp) (Q:VK),acc.length+1000*es.length<=100000->Inv X pins σ H s->tV X G H0 v σ H Q ->
  wpAny (model X.prog X.w) X.A (joinParts acc (evalEach es X.env)) (EP X pins σ Q) X.xe s
theorem ot  : uI X G H0 [] some:=⟨λD pins s σ H Q V I U=>by
 obtain⟨W,env,env',ok,q,k⟩:=U;cases q;exact joinParts_nil ⟨.str D,H,I.tok _,⟨_,rfl⟩,k W D H Step.refl ok⟩ (by rw[i4];lia)⟩
theorem ub{w:FV}(h:A2 X G H0 e v)(t:uI X G H0 es w)(f:‹evalEach (e::es) X.env=eval e X.env::evalEach es X.env›):uI X G H0 (e::es) (λz=>(v z).bind w):=⟨λa pins s σ H Q b I D=>by
 obtain⟨W,env,env',ok,q,k⟩:=D;cases e1:v env with
 |none=>simp only[e1] at q;cases q
 |some env1 =>
   have q:w env1=↑env':=by simpa only[e1,ac] using q
   rw[ao] at b;refine joinParts_cons (bI (h.out pins s σ H (λn H1=>n<=1000/\tV X G H0 w σ H1 Q) I ⟨W,env,env1,ok,e1,λn W1 H1 Z U V=>⟨Z,W1,env1,env',V,q,λW' z H' s2 Y=>k W' z H' (U.trans s2) Y⟩⟩) λu U D=>?_);obtain⟨z,tk,H1,c,d,Z,tv⟩:=D;subst c;exact⟨by rw[strLen_append,i4];lia,t.out _ pins U σ H1 Q (by rw[strLen_append];lia) d tv⟩⟩
theorem ou{e':Expr}(h:uI X G H0 (e::e'::es) v)(D:1000*(e::e'::es).length<=100000:=by decide):JV X G H0 (.JoinedStr (e::e'::es) pos) v :=
 ⟨λpins s σ H Q I t=>JoinedStr_many (h.out Str.empty pins s σ H Q (by show 0+_<=_;lia) I t)⟩
abbrev A3:h7:=[.type "ValueError",.type "Exception",.type "BaseException",.type "object"]
def XC(K:kf)(C:Addr):Prop:=PySem.W.excIn K C A3 "ValueError.__new__" = true
def jL(K:kf)(mg:Str->h8)(c:Str):Prop:=∃C,Cl K c C/\XC K C/\mg c=↑(.ref C)/\(c==("__debug__" : Str))=false
def XC.obj{h:Heap}(I:XC K C)(D:K.In h):∃bm N nm q bs hdct sn sub ab col dd k0 k1 k2 k3 k5 mN,h.get? C=↑(excClassObj nm q C N bs bm hdct sn sub ab col dd k0 k1 k2 k3 k5 "ValueError.__new__")/\h.Ns N mN/\mN "__init__" = none/\OwnTail h A3 bm:=by
 unfold XC PySem.W.excIn at I;split at I;case h_2=>cases I
 rename_i dd cd sl V;split at I;case h_2=>cases I
 rename_i m bm k0 k1 k2 k3 n k5 Y Z;simp only[fo,mw,m8] at I;obtain⟨⟨⟨⟨⟨a,b⟩,c⟩,d⟩,U⟩,e⟩:=I;subst a;subst b;have f:=D _ _ V;obtain⟨nm,bs,g,i,j,hd,sn,sub,ab,col,k⟩:=cd;obtain⟨l⟩:=sl;subst Y;subst c;subst Z;exact⟨bm,i,nm,j,bs,hd,sn,sub,ab,col,dd,k0,k1,k2,k3,k5,_,f,.of_isNs (isNs_of_in D U),nsMap_none_of_in D U e,tail_of_in D d⟩
def n8(c:Str)(v:FV):FS:=λe=>(v e).map λe'=>(.xc c,e')
def xk{l cpos:Pos}(n:jL X.K X.mg c)(o:JV X G H0 a v)(p:‹X.calm=true›)(r:Gl X c:=by walk_at "g")(Y:‹starEach [a] X.env=(false,eval a X.env)::starEach [] X.env›)(Z:‹(backTo cpos (starEach [a] X.env)).any (·.1)=false›) :
  eZ X G H0 (.Raise ↑(.Call (.Name c l) [a] [] cpos) none pos) (n8 c v):=let ⟨C,t,u,w,b⟩:=n;⟨λpins s σ H D I d=>by
 obtain⟨W,env,fl,env',ok,q,k⟩:=d;unfold n8 at q;cases e1:v env with
 |none=>rw[e1] at q;cases q
 |some env1 =>
   rw[e1] at q;cases q;obtain⟨tl,N,nm,q,bs,hdct,sn,sub,ab,col,dd,k0,k1,k2,k3,k5,mN,x,y,A,i⟩:=u.obj I.ok.mod.kin;refine wpAny_Raise_call_subT (C:=C) (nm:=nm) (q:=q) (N:=N) (bs:=bs) (bm:=tl) (hdct:=hdct) (sn:=sn) (sub:=sub) (ab:=ab) (col:=col) (dd:=dd) (k0:=k0) (k1:=k1) (k2:=k2) (k3:=k3) (k5:=k5) zn (mN:=mN)
    (i.hasType zn.hasBase) (I.ok.hd p) Z A (lK I r w ⟨rfl,?_⟩ b)
   rw[Y];refine Calls.evalArgs_plain ?_;have j:=(qu o.out uz Y) cpos pins s σ H (λvs H1=>vs.length=1/\∃W1,Step W H W1 H1/\Ok X.K G H0 W1 env' σ H1) I ⟨W,env,env',ok,e1,λW1 z H1 f U=>⟨rfl,W1,f,U⟩⟩;rw[Y] at j;refine bI j λus f d=>?_;obtain⟨vs,H1,V,B,E,W1,g,U⟩:=d;have h:us.length<=sizeLine:=by rw[<-B.length,E];decide
   exact⟨rfl,h,V.bk _ _ x,y.keeps V.bk,i.keeps V.bk,λh' e m=>k W1 σ H1 C t g U pins e _ (.inr ⟨f,us,V,m,rfl⟩)⟩⟩
def cX(e:DE0)(i:Nat):Option Ag:=match e[i]? with |some ↑(.ag k _ ps)=>↑(k,ps) |some ↑(.ro k ps)=>↑(k,ps) |_=>none
def vf:k9->Nat->Nat
 | .o _::r,j+1=>vf r j+1 | .d _::r,j+1=>vf r j |_,_=>0
inductive Acc where
 |at (κ:AK) |al (x:Nat)
def Acc.ok:Acc->DE0->Nat->Nat->Prop
 | .at κ,e,i,_=>kK κ e i
 | .al x,e,i,j=>∃k r ps,e[i]?=↑↑(.ag k ↑r ps)/\e[x]?=↑↑(.al r (vf ps j))
instance (A:Acc) (e:DE0) (i j:Nat):Decidable (A.ok e i j):=Classical.propDecidable _
def oa(A:Acc)(i j:Nat)(e:DE0):Option k7:=if A.ok e i j then(cX e i).bind λx=>match x.2[j]? with |some (.o ds)=>↑ds |_=>none else none
def eJ(K:kf)(H:Hp)(env:DE0)(σ:St)(i j:Nat)(a:Addr):Prop:=∃k ps p us,cX env i=↑(k,ps)/\σ[i]?=↑↑(.ref p)/\eE K H k p us/\us[j]?=↑(.ref a)
def Mq(X:Cx)(G:Gd)(H0:Hp)(A:Acc)(i j:Nat):TE:=λσ H Q=>∃W env ds,Ok X.K G H0 W env σ H/\oa A i j env=↑ds /\
 ∀a vs,eJ X.K H env σ i j a->H a=↑(.lst vs)->aK X.K H (Ow G W) ds vs->Q (.ref a) H
structure o0 (X:Cx) (G:Gd) (H0:Hp) (e:Expr) (A:Acc) (i j:Nat):Prop where
 out:PE X e (Mq X G H0 A i j)
protected def aW.ix(h:aW K G W H ps as us)(e:ps[j]?=↑(.o ds)):∃a,us[j]?=↑(.ref a)/\as[vf ps j]?=↑a:=by
 induction h generalizing j with
 |nil=>simp at e |d _ _ ih =>
   cases j with
   |zero=>simp at e |succ j=>obtain⟨a,h1,h2⟩:=ih (j:=j) (by simpa using e);exact⟨a,by simpa using h1,h2⟩
 | @o _ a _ _ _ _ _ _ _ _ ih =>
   cases j with
   |zero=>exact⟨a,rfl,rfl⟩ |succ j=>obtain⟨b,h1,h2⟩:=ih (j:=j) (by simpa using e);exact⟨b,by simpa using h1,by simpa[vf] using h2⟩
variable{k:AK}
def Ok.part(ok:Ok K G H0 W env σ H)(e:cX env i=↑(k,ps))(Y:ps[j]?=↑(.o ds)):∃p us a vs,σ[i]?=↑↑(.ref p)/\eE K H k p us/\us[j]?=↑(.ref a)/\H a=↑(.lst vs)/\aK K H (Ow G W) ds vs:=by
 unfold cX at e;split at e
 ·rename_i k' l ps' q
  cases e;obtain⟨v,D,p,as,us,rfl,_,_,_,I,U⟩:=ok.slot i _ q;obtain⟨a,vs,h1,_,_,h2,V⟩:=U.get Y;exact⟨p,us,a,vs,D,I,h1,h2,V⟩
 ·rename_i k' ps' q
  cases e;obtain⟨v,D,p,us,rfl,_,I,U⟩:=ok.slot i _ q;obtain⟨a,vs,h1,_,h2,V⟩:=U.get Y;exact⟨p,us,a,vs,D,I,h1,h2,V⟩
 ·cases e
variable{A:Acc}
def uJ(h:oa A i j env=↑ds):A.ok env i j/\∃k ps,cX env i=↑(k,ps)/\ps[j]?=↑(.o ds):=by
 unfold oa at h;split at h;case isFalse=>cases h
 rename_i D;cases e:cX env i with
 |none=>rw[e] at h;cases h
 |some x =>
   rw[e,ac] at h;split at h
   ·rename_i ds' q;cases h;exact⟨D,x.1,x.2,rfl,q⟩
   ·cases h
def eJ.inj{a b:Addr}(h:eJ K H env σ i j a)(h':eJ K H env σ i j b):a=b:=by
 obtain⟨k,ps,p,us,h1,h2,Y,Z⟩:=h;obtain⟨k',ps',p',c,I,U,V,D⟩:=h';rw[h1] at I;cases I;rw[h2] at U;cases U;rw[lT Y V.o] at D;rw[Z] at D;cases D;rfl
def A4{f:Str}{u:V}(nd:fs.Nodup)(h1:fs[j]?=↑f)(h2:us[j]?=↑u):(fs.zip us).lookup f=↑u:=by
 induction fs generalizing us j with
 |nil=>simp at h1 |cons g r ih =>
   cases us with
   |nil=>simp at h2 |cons w us =>
     rw[jy,d5];cases j with
     |zero=>simp at h1 h2;subst h1;subst h2;simp |succ j =>
       have D:(f==g)=false:=by simp;exact λz=>(ci.mp nd).1 (z ▸ bc h1)
       rw[D];exact ih (ci.mp nd).2 h1 (by simpa using h2)
def mT(c:qT X.K cn m)(an:bR Nn Cn X)(I:‹Nn[i]?=↑x›)(Y:‹fs[j]?=↑m›)(nd:fs.Nodup:=by decide +kernel)(Z:‹attributeBase (.Name x p') m X.env (eval (.Name x p') X.env)=eval (.Name x p') X.env›):o0 X G H0 (.Attribute (.Name x p') m pos) (.at (.ins false cn fs)) i j:=let ⟨C,c,b,d⟩:=c;⟨(Do ((an.a I).pe) Z).imp λσ H Q e=>by
  obtain⟨W,env,ds,ok,q,k⟩:=e;obtain⟨f,κ,ps,D,g⟩:=uJ q;obtain⟨p,us,a,vs,h1,h2,U,h,n⟩:=ok.part D g;have o:κ=.ins false cn fs:=by
   rcases f with⟨l,ps',z⟩ | ⟨ps',z⟩ <;> (unfold cX at D;rw[z] at D;cases D;rfl)
  subst o;obtain⟨s,dx,r,V,t⟩:=id h2;rw[Cl.inj r d] at V;exact⟨_,h1,p,C,dx,_,_,rfl,V,c,b,A4 nd Y U,k a vs ⟨_,ps,p,us,D,h1,h2,U⟩ h n⟩⟩
def qW{ix:Nat}(an:bR Nn Cn X)(Y:‹Nn[ix]?=↑x›):o0 X G H0 (.Name x pos) (.al ix) i j :=
 ⟨((an.a Y).pe).imp λσ H Q m=>by
  obtain⟨W,env,ds,ok,q,k⟩:=m;obtain⟨⟨κ',r,ps',Z,n⟩,κ,ps,b,d⟩:=uJ q;have U:cX env i=↑(κ',ps'):=by unfold cX;rw[Z]
  rw[U] at b;cases b;obtain⟨v,o,p,as,us,rfl,_,_,s,t,e⟩:=ok.slot i _ Z;obtain⟨z,u,w,f,g,I,V,rfl⟩:=ok.slot ix _ n;obtain⟨a,vs,h1,_,_,h2,y⟩:=e.get d;obtain⟨A,h,l⟩:=e.ix d;rw[h1] at h;cases h;have D:=s r rfl;have:g=a:=by
   cases κ' with
   |ls=>have D:G.r r=p::as:=D;rw[D] at I;cases I;rw[l] at V;cases V;rfl
   |ins bb c fs =>
     cases bb with
     |true=>have D:G.r r=[p]:=D;rw[D] at I;cases I;simp at V
     |false=>have D:G.r r=p::as:=D;rw[D] at I;cases I;rw[l] at V;cases V;rfl
  subst this;exact⟨_,u,k g vs ⟨_,ps',p,us,U,o,t,h1⟩ h2 y⟩⟩
def gO(A:Acc)(i j:Nat):FE:=λe=>(oa A i j e).map λds=>(.int ds.length,e)
def Fg(h:o0 X G H0 e A i j)(D:Bn X "len":=by walk_at "b")(I:‹starEach [e] X.env=(false,eval e X.env)::starEach [] X.env›):aT X G H0 (.Call (.Name "len" p') [e] [] pos) (gO A i j) :=
 ⟨(nG yJ D.g D.m zm (qu h.out uz I) (by decide) (by decide) I rfl).imp λσ H Q U=>by
  obtain⟨W,env,d,env',ok,q,k⟩:=U;unfold gO at q;cases e1:oa A i j env with
  |none=>rw[e1] at q;cases q
  |some ds =>
    rw[e1] at q;cases q;exact⟨W,env,ds,ok,e1,λa vs _ V r=>⟨a,vs,rfl,.inl (.inl (.inl V)),by rw[<-r.length];exact k W _ H Step.refl ok ↥_⟩⟩⟩
structure JK (X:Cx) (e:Expr) (z:Int):Prop where
 out:PE X e (tC ↥z)
variable{jj:Nat}
def Fh:JK X (.Constant ↥z jj pos) z:=⟨pG⟩
def Fi(h:JK X e z):JK X (.UnaryOp .USub e pos) (-z):=⟨(CZ C_ h.out).imp λσ H Q q=>⟨z,rfl,q⟩⟩
def oA(A:Acc)(i j:Nat)(z:Int):FE:=λe=>(oa A i j e).bind λds=>(bF ds z).map λd=>(d,e)
def Fj(h:o0 X G H0 e A i j)(D:JK X b z)(I:lQ b:=by intro _ _;rfl):aT X G H0 (.Subscript e b pos) (oA A i j z) :=
 ⟨(pT tE h.out D.out I).imp λσ H Q U=>by
  obtain⟨W,env,d,env',ok,q,k⟩:=U;unfold oA at q;cases e1:oa A i j env with
  |none=>rw[e1] at q;cases q
  |some ds =>
    rw[e1,ac] at q;cases e2:bF ds z with
    |none=>rw[e2] at q;cases q
    |some d' =>
      rw[e2] at q;cases q;refine⟨W,env,ds,ok,e1,λa vs _ V r=>?_⟩;obtain⟨v,Y,Z⟩:=nL r e2;exact⟨a,vs,z,v,rfl,rfl,.inl (.inl V),Y,k W v H Step.refl ok Z⟩⟩
def setP(e:DE0)(i j:Nat)(ds:k7):DE0:=match e[i]? with |some ↑(.ag k l ps)=>e.set i ↑(.ag k l (ps.set j (.o ds))) |_=>e
def Ok.setP{K:kf}{W:Addr->Prop}{H:Hp}{env:DE0}{σ:St}{k:AK}{l:Option Nat}{ps:k9}{ds ds':k7}{a:Addr}{vs':k6}(ok:Ok K G H0 W env σ H)(e:env[i]?=↑↑(.ag k l ps))(I:ps[j]?=↑(.o ds))(U:eJ K H env σ i j a)(r:aK K H (Ow G W) ds' vs') :
  Ok K G H0 W (L2.setP env i j ds') σ (aV H a (.lst vs'))/\Step W H W (aV H a (.lst vs')):=by
 obtain⟨k',ps',p,us,h1,h2,Y,Z⟩:=U;have:cX env i=↑(k,ps):=by unfold cX;rw[e]
 rw[this] at h1;cases h1;unfold L2.setP;rw[e];exact ok.turnP e h2 Y I Z r
def hC(A:Acc)(i j:Nat):FE:=λe=>match e[i]? with
 |some ↑(.ag _ _ _)=>(oa A i j e).bind λds=>(ds[ds.length-1]?).map λd=>(d,setP e i j ds.dropLast)
 |_=>none
variable{p1:Pos}
def uK(h:o0 X G H0 e A i j)(D:‹attributeBase e "pop" X.env (eval e X.env)=eval e X.env›)(I:‹(p1.endLine==pos.line)=true›) :
  aT X G H0 (.Call (.Attribute e "pop" p1) [] [] pos) (hC A i j):=⟨(D5 h9 pk pj DA h.out D I).imp λσ H Q b=>by
 obtain⟨W,env,d,env',ok,q,k⟩:=b;unfold hC at q;split at q;case h_2=>cases q
 rename_i kk n pp U;cases e1:oa A i j env with
 |none=>rw[e1] at q;cases q
 |some ds =>
   rw[e1,ac] at q;cases e2:ds[ds.length-1]? with
   |none=>rw[e2] at q;cases q
   |some d' =>
     rw[e2] at q;cases q;obtain⟨_,κ,ps,V,c⟩:=uJ e1;have:cX env i=↑(kk,pp):=by unfold cX;rw[U]
     rw[this] at V;cases V;refine⟨W,env,ds,ok,e1,λa vs f Y r=>⟨.inl ⟨rfl,_,.inl (.inl Y)⟩,?_⟩⟩;obtain⟨u,g,l⟩:=r.get e2;obtain⟨m,Z⟩:=ok.setP U c f r.dropLast;exact⟨a,vs,u,rfl,rfl,Y,by rw[<-r.length];exact g,k W _ _ Z m (ok.rep Z l)⟩⟩
def jX(k:AK)(l:Option Nat):Prop:=l.isSome=true/\∀c fs,k≠.ins true c fs
instance (k:AK) (l:Option Nat):Decidable (jX k l):=Classical.propDecidable _
variable{l:Option Nat}
def Mr{W1:Addr->Prop}{H1:Hp}{env1:DE0}{U:k9}{f:k7}{a:Addr}(x:jX k l)(ok:Ok K G H0 W env σ H)(g:Ok K G H0 W1 env1 σ H1)(e:env[i]?=↑↑(.ag k l ps))(y:env1[i]?=↑↑(.ag k l U))(z:ps[j]?=↑(.o ds))(h:U[j]?=↑(.o f))(A:vf U j=vf ps j)(B:eJ K H env σ i j a):eJ K H1 env1 σ i j a:=by
 obtain⟨r,rfl⟩:=nh.mp x.1;obtain⟨v,m,p,as,us,rfl,_,_,h1,C,E⟩:=ok.slot i _ e;obtain⟨M,Z,p',V,n,rfl,_,_,q,s,t⟩:=g.slot i _ y;rw[m] at Z;cases Z;have Y:=h1 r rfl;have I:=q r rfl;obtain⟨b,F,J⟩:=E.ix z;obtain⟨N,u,d⟩:=t.ix h;have L:eJ K H env σ i j b:=⟨k,ps,p,us,by unfold cX;rw[e],m,C,F⟩;have ab:=B.inj L;subst ab;have w:V=as:=by
  cases k with
  |ls=>have Y:G.r r=p::as:=Y;have I:G.r r=p::V:=I;rw[Y] at I;cases I;rfl
  |ins bb c fs =>
    cases bb with
    |true=>exact absurd rfl (x.2 c fs) |false=>have Y:G.r r=p::as:=Y;have I:G.r r=p::V:=I;rw[Y] at I;cases I;rfl
 subst w;rw[A,J] at d;cases d;exact⟨k,U,p,n,by unfold cX;rw[y],m,s,u⟩
instance (k k':AK):Decidable (k=k'):=Classical.propDecidable _
def kZ(i j:Nat)(k0:AK)(I:Option Nat)(n:Nat)(d:D)(e:DE0):Option (D×DE0):=match e[i]? with
 |some ↑(.ag k l ps)=>(match ps[j]? with |some (.o ds)=>if k=k0/\l=I/\vf ps j=n/\bS (ds.length+1) then ↑(.non,setP e i j (ds++[d])) else none |_=>none)
 |_=>none
def wz(A:Acc)(i j:Nat)(f:FE):FE:=λe=>match e[i]? with
 |some ↑(.ag k l ps)=>if jX k l then(oa A i j e).bind λ_=>(f e).bind λr=>kZ i j k l (vf ps j) r.1 r.2 else none
 |_=>none
def uL(h:o0 X G H0 e A i j)(t:aT X G H0 a f)(I:‹attributeBase e "append" X.env (eval e X.env)=eval e X.env›)(Z:((backTo pos (starEach [a] X.env)).all (λx=>!x.1) && (backToKw pos (keywordEach [] X.env)).all (λx=>x.1.isSome)
   && decide ([a].length+([]:List Keyword).length+(if ([]:List Keyword).isEmpty then 0 else 1)<30))=true:=by rfl)(U:‹(p1.endLine==pos.line)=true›)(m:‹starEach [a] X.env=(false,eval a X.env)::starEach [] X.env›) :
  aT X G H0 (.Call (.Attribute e "append" p1) [a] [] pos) (wz A i j f):=⟨(pX h9 PySem.F.slot_list_append PySem.F.type_list_append D9 h.out (qu t.out uz m) I Z U m rfl).imp λσ H Q u=>by
 obtain⟨W,env,d,env',ok,q,k⟩:=u;unfold wz at q;split at q;case h_2=>cases q
 rename_i kk S pp n;split at q;case isFalse=>cases q
 rename_i b;cases e1:oa A i j env with
 |none=>rw[e1] at q;cases q
 |some ds =>
   rw[e1,ac] at q;cases e2:f env with
   |none=>rw[e2] at q;cases q
   |some r =>
     rw[e2,ac] at q;unfold kZ at q;split at q;case h_2=>cases q
     rename_i k1 T v D;split at q;case h_2=>cases q
     rename_i w V;split at q;case isFalse=>cases q
     rename_i y;obtain⟨rfl,rfl,z,g⟩:=y;cases q;obtain⟨_,κ,ps,o,B⟩:=uJ e1;have:cX env i=↑(k1,pp):=by unfold cX;rw[n]
     rw[this] at o;cases o;refine⟨W,env,ds,ok,e1,λad vs C E rr=>⟨.inl ⟨rfl,_,.inl (.inl E)⟩,W,env,r.1,r.2,ok,e2,λW1 v1 H1 J Y K=>?_⟩⟩;have c:=Mr b ok Y n D B V z C;obtain⟨p,us,a1,l,L,M,N,O,s⟩:=Y.part (i:=i) (by unfold cX;rw[D]) V;have:=c.inj ⟨_,_,p,us,by unfold cX;rw[D],L,M,N⟩;subst this;obtain⟨P,R⟩:=Y.setP D V c (s.append (.cons K .nil));exact⟨ad,l,v1,rfl,rfl,O,by rw[<-s.length];exact m2 (uj g),k W1 _ _ (J.trans R) P .non⟩⟩
def iF(i j:Nat):FE:=λe=>match e[i]? with
 |some ↑(.ag .ls _ ps)=>(match ps[j]? with |some (.d d)=>↑(d,e) |_=>none)
 |some ↑(.ro .ls ps)=>(match ps[j]? with |some (.d d)=>↑(d,e) |_=>none)
 |_=>none
def Fk(an:bR Nn Cn X)(D:‹Nn[i]?=↑x›)(Z:lQ (.Constant ↥(j:Int) jj p1):=by intro _ _;rfl):aT X G H0 (.Subscript (.Name x p') (.Constant ↥(j:Int) jj p1) pos) (iF i j) :=
 ⟨(pT tE ((an.a D).pe) pG Z).imp λσ H Q b=>by
  obtain⟨W,env,d,env',ok,q,k⟩:=b;unfold iF at q;split at q
  ·rename_i l ps I
   split at q;case h_2=>cases q
   rename_i d' hd;cases q;obtain⟨v,U,p,as,us,rfl,_,_,_,V,Y⟩:=ok.slot i _ I;obtain⟨u,h1,h2⟩:=Y.getD hd;exact⟨_,U,p,us,j,_,rfl,rfl,.inl (.inl V),Dz h1,k W u H Step.refl ok h2⟩
  ·rename_i ps I
   split at q;case h_2=>cases q
   rename_i d' hd;cases q;obtain⟨v,U,p,us,rfl,_,V,Y⟩:=ok.slot i _ I;obtain⟨u,h1,h2⟩:=Y.getD hd;exact⟨_,U,p,us,j,_,rfl,rfl,.inl (.inl V),Dz h1,k W u H Step.refl ok h2⟩
  ·cases q⟩
def wu(i j:Nat)(f:FE):FS:=λe=>(f e).bind λr=>match r.2[i]? with
 |some ↑(.ag .ls l ps)=>(match ps[j]? with |some (.d _)=>↑(.nx,r.2.set i ↑(.ag .ls l (ps.set j (.d r.1)))) |_=>none)
 |_=>none
variable{p2:Pos}
theorem uM(b:aT X G H0 e f)(an:bR Nn Cn X)(U:‹Nn[i]?=↑x›)(c:‹swapsWithSole [.Subscript (.Name x p') (.Constant ↥(j:Int) jj p2) p1] e pos.line X.env=pure false›)(d:‹swappedStores [.Subscript (.Name x p') (.Constant ↥(j:Int) jj p2) p1] e X.env=pure none›)(h1:‹(assignEach [.Subscript (.Name x p') (.Constant ↥(j:Int) jj p2) p1] X.env).map (·.2)=[assign (.Subscript (.Name x p') (.Constant ↥(j:Int) jj p2) p1) X.env]›)(D:∀v,assign (.Subscript (.Name x p') (.Constant ↥(j:Int) jj p2) p1) X.env v=(do
   let ov <-holding [v] (eval (.Name x p') X.env);let iv <-holding [v,ov] (eval (.Constant ↥(j:Int) jj p2) X.env)
   standAt p1
   holding [v,ov,iv] (setItem ov iv v)
   release [v,ov,iv] []):=by intro _;rfl) :
  eZ X G H0 (.Assign [.Subscript (.Name x p') (.Constant ↥(j:Int) jj p2) p1] e pos) (wu i j f):=⟨(pJ b.out (sS ((an.a U).pe) pG nH D) c d h1).imp λDn σ H g=>by
 obtain⟨W,env,fl,env',ok,q,k⟩:=g;unfold wu at q;cases e1:f env with
 |none=>rw[e1] at q;cases q
 |some r =>
   rw[e1,ac] at q;split at q;case h_2=>cases q
   rename_i l ps V;split at q;case h_2=>cases q
   rename_i d' hd;cases q;refine⟨W,env,r.1,r.2,ok,e1,λW1 v1 H1 h I m=>?_⟩;obtain⟨v,Y,p,as,us,rfl,_,_,_,Z,n⟩:=I.slot i _ V;obtain⟨u,h1,h2⟩:=n.getD hd;obtain⟨o,s⟩:=I.turnD V Y Z hd m;have t:=(aj.mp h1).1;exact⟨_,Y,p,us,j,j,rfl,rfl,Z,by unfold dV;rw[aq ∅,aq ∅];simp,k W1 _ _ (h.trans s) o⟩⟩
abbrev FG:=DE0->Option (Ag×DE0)
def Fm(env:DE0)(σ:St)(H:Hp)(s:Sl)(v:V):Prop:=∀(j:Nat) (s':Sl) (D:V) (a:Addr),env[j]?=↑↑s'->σ[j]?=↑↑D->bL H s v a->¬bL H s' D a
def Ms(X:Cx)(G:Gd)(H0:Hp)(f:FG):TE:=λσ H Q=>DP X.K G H0 f (λW env x env' =>
 ∀W' p H',Step W H W' H'->Ok X.K G H0 W' env' σ H'->dW X.K G W' H' (.ag x.1 none x.2) (.ref p)->Fm env' σ H' (.ag x.1 none x.2) (.ref p)->Q (.ref p) H') σ H
structure qX (X:Cx) (G:Gd) (H0:Hp) (e:Expr) (f:FG):Prop where
 out:PE X e (Ms X G H0 f)
def qY(i:Nat)(f:FG):FS:=λe=>(f e).map λr=>(.nx,r.2.set i ↑(.ag r.1.1 none r.1.2))
def uN(f:FG):FS:=λe=>(f e).map λr=>(.ra r.1.1 r.1.2,r.2)
variable{G':Gd}
def Ok.newA(ok:Ok K G H0 W env σ H)(sm:bB H H')(Z:∀a,W' a->H a=none)(B:∀a,W' a->∃m:Mo,H' a=↑m.out)(C:∀a,G' a->Ow G W a\/H a=none){k':AK}{p:Addr}(t:∀us,eE K H' k p us->eE K H' k' p us)(h:dW K G' W' H' (.ag k l ps) (.ref p)) :
  Ok K G H0 (λa=>W a\/W' a) env σ H'/\Step W H (λa=>W a\/W' a) H'/\dW K G (λa=>W a\/W' a) H' (.ag k' none ps) (.ref p)/\Fm env σ H' (.ag k' none ps) (.ref p):=by
 have st:Step W H (λa=>W a\/W' a) H':=⟨λb o e _=>sm b o e,λa z=>z.imp id (Z a)⟩;have D:=ok.same sm;have c:Ok K G H0 (λa=>W a\/W' a) env σ H':=by
  refine⟨D.stay,ok.good,λa z=>?_,λi s e=>?_,D.uniq,ok.len⟩
  ·rcases z with z |z
   ·exact D.wl a z
   ·exact⟨ok.stay.free (Z a z),B a z⟩
  ·obtain⟨v,f,q⟩:=ok.slot i s e
   exact⟨v,f,ok.slstep st q λa m o g=>⟨.inl (q.owns o),sm _ _ g⟩⟩
 obtain⟨p',as,us,e,u,nd,L,I,U⟩:=h;cases e;have x:∀(a:Addr) (us:k6),Ow G' W' a->Rd H' a (.lst us)->Ow G (λa=>W a\/W' a) a/\Rd H' a (.lst us):=λa us o q=>⟨by
  rcases C a o.1 with z |z
  ·exact⟨z.1,λy=>y.elim z.2 o.2⟩
  ·exact⟨ok.good a (ok.stay.free z),λy=>y.elim (λw=>by obtain⟨_,m,q⟩:=ok.wl a w;rw[z] at q;cases q) o.2⟩,q⟩
 refine⟨c,st,⟨p,as,us,rfl,.inr u,nd,(λn z=>nomatch z),t us I,U.step (λa vs Y z=>⟨.inr (U.own Y).1,z⟩) (λd v r=>r.mono (λ_ _ h=>h) x) λd v r=>r.mono (λ_ _ h=>h) x⟩,λj s v a f g E F=>?_⟩;have J:W' a:=by
  rcases E with o | ⟨p',us',z,q,Y⟩
  ·cases o;exact u
  ·cases z
   rw[lT (t us I) q] at Y;exact(U.own (U.parts_iff.mp Y)).1
 obtain⟨M,A,q⟩:=D.slot j s f;rw[g] at A;cases A;obtain⟨_,m,z⟩:=ok.wl a (q.owns F);rw[Z a J] at z;cases z
variable{g:FG}{y:XF}
def Fn{y:Str}(I:eN Nn X)(h:qX X G H0 e g)(D:‹Nn[i]?=↑y›)(V:‹swapsWith e ↑(.Name y p') pos.line X.env=pure false›) :
  eZ X G H0 (.Assign [.Name y p'] e pos) (qY i g):=⟨(xW (I.t D).nd (I.t D).n (I.t D).l h.out V (I.t D).f).imp λDn σ H Y=>by
 obtain⟨W,env,fl,env',ok,q,k⟩:=Y;unfold qY at q;cases e1:g env with
 |none=>rw[e1] at q;cases q
 |some r =>
   rw[e1] at q;cases q;exact⟨W,env,r.1,r.2,ok,e1,λW1 p H1 Z U sl a=>k W1 _ H1 Z (U.put sl a)⟩⟩
def Mt(h:qX X G H0 e g):eZ X G H0 (.Return ↑e pos) (uN g):=⟨(sQ h.out).imp λDn σ H I=>by
 obtain⟨W,env,fl,env',ok,q,k⟩:=I;unfold uN at q;cases e1:g env with
 |none=>rw[e1] at q;cases q
 |some r =>
   rw[e1] at q;cases q;exact⟨W,env,r.1,r.2,ok,e1,λW1 p H1 U D sl V=>k W1 σ p H1 U D sl⟩⟩
def uO(K:kf)(m:k7->Option Ag)(x:k7->ka):Sp:=λvs H Q E=>∃O ds,aK K H O ds vs /\
 ((∃y,m ds=↑y/\∀(W':Addr->Prop) p H',bB H H'->(∀a,W' a->H a=none)->(∀a,W' a->∃m:Mo,H' a=↑m.out)->dW K (gd λa=>O a\/H a=none) W' H' (.ag y.1 none y.2) (.ref p)->Q (.ref p) H')\/∃c,x ds=↑c/\∀C H',Cl K c C->bB H H'->E (.ref C) none H')
def jE(n ar:Nat)(g:FS):k7->Option Ag:=λds=>if ds.length=ar then(match g (lf n ds) with |some (.ra k ps,_)=>↑(k,ps) |_=>none) else none
def xG(n ar:Nat)(g:FS):k7->ka:=λds=>if ds.length=ar then(match g (lf n ds) with |some (.xc c,_)=>↑c |_=>none) else none
variable{k:Nat}{ps:h6}{g:FP}
theorem Mu{f:Addr}{g:FS}(F:h_ K x qual st f fd)(S:we N ps (i9 st))(Y:n=N.length)(Z:ar=ps.length)(I:∀(cdv:Value) (A:Around) (outer:ip) (s:Shared) (H:Hp) (E:XK) (G:Gd) (H0:Hp),bC k (A.deeper (envOfC qual (i9 st) s.heap.objs.size f cdv)) ->
   gE (cI (dX P w) P w K mg base N qual (i9 st) f cdv A outer s H E) G H0 (pf st) g):cK P w K mg base (dX P w) (k+1) f fd ps (uO K (jE n ar g) (xG n ar g)):=by
 subst Y Z;refine F.okX S (λvs H Q E h=>?_) (λcdv A outer s H vs Q E b h=>?_)
 ·obtain⟨O,ds,r,h⟩:=h
  rw[<-r.length];rcases h with⟨y,e,_⟩ | ⟨c,e,_⟩
  ·unfold jE at e;split at e
   ·assumption
   ·cases e
  ·unfold xG at e;split at e
   ·assumption
   ·cases e
 ·obtain⟨O,ds,r,h⟩:=h
  refine⟨_,(I cdv A outer s H E (gd λa=>O a\/H a=none) H b).out,?_⟩;rcases h with⟨y,e,k⟩ | ⟨c,e,k⟩
  ·unfold jE at e
   split at e;case isFalse=>cases e
   split at e
   ·rename_i k' ps' env' U
    cases e;exact⟨dA,_,_,env',ze r,U,λW' V p H' st D sl=>k W' p H' D.stay (λa z=>(st.ws a z).elim (λz=>z.elim) id) (λa z=>(D.wl a z).2) sl⟩
   ·cases e
  ·unfold xG at e
   split at e;case isFalse=>cases e
   split at e
   ·rename_i j env' U
    cases e;exact⟨dA,_,_,env',ze r,U,λW' V H' d i st D pins e s' xs=>zS xs (k d H' i D.stay)⟩
   ·cases e
def uP(m:k7->Option Ag)(F:FA):FG:=λe=>(F e).bind λr=>(m r.1).map λy=>(y,r.2)
def Mw{m:k7->Option Ag}{xx:k7->ka}(c:bO X.prog X.w X.K X.mg X.base (dX X.prog X.w) x k (uO X.K m xx))(Z:bC jr X.A)(b:fG X G H0 (e::es) F)(I:k<=jr:=by decide)(d:Gl X x:=by walk_at "g")(f:‹starEach (e::es) X.env=(false,eval e X.env)::starEach es X.env›)(U:‹(backTo pos (starEach es X.env)).any (·.1)=false›) :
  qX X G H0 (.Call (.Name x p') (e::es) [] pos) (uP m F):=let ⟨_,_,_,g,h,i,j,V⟩:=c;⟨(qU g (Z.mono I) d h i j b.out V f U).imp λσ H Q l=>by
 obtain⟨W,env,y,env',ok,q,k⟩:=l;unfold uP at q;cases e1:F env with
 |none=>rw[e1] at q;cases q
 |some r =>
   rw[e1,ac] at q;cases e2:m r.1 with
   |none=>rw[e2] at q;cases q
   |some y' =>
     rw[e2] at q;cases q;refine⟨W,env,r.1,r.2,ok,e1,λW1 vs H1 n Y o=>⟨Ow G W1,r.1,o,.inl ⟨_,e2,λW' p H' sm s t sl=>?_⟩⟩⟩;obtain⟨u,v,B,C⟩:=Y.newA sm s t (λa z=>z) (k':=y.1) (λus z=>z) sl;exact k _ p H' (n.trans v) u B C⟩
def qZ(c:Str)(m:ll->k7->ln)(F:FA):FG:=λe=>(F e).bind λr=>(m [(.ins true c [],[])] r.1).bind λq=>match q with
 | (.non,[(.ins true c' fs,ps)])=>↑((.ins false c' fs,ps),r.2) |_=>none
def Mx{D dx:Addr}(ok:Ok K G H0 W env σ H)(Y:Cl K cn C)(h1:H D=none)(h2:H dx=none)(j:dx≠D)(r:aK K H (Ow G W) ds vs) :
  bB H (aV (aV H dx (.own D)) D (.ins C dx [])) /\
  Ok K ⟨Ow G W,λ_=>[D]⟩ (fR (aV (aV H dx (.own D)) D (.ins C dx [])) (λb=>b=D)) (λb=>b=D) (t6 [(.ins true cn [],[])]) [↑(.ref D)] (aV (aV H dx (.own D)) D (.ins C dx [])) /\
  aK K (aV (aV H dx (.own D)) D (.ins C dx [])) (Ow ⟨Ow G W,λ_=>[D]⟩ (λb=>b=D)) ds vs:=by
 have sm:bB H (aV (aV H dx (.own D)) D (.ins C dx [])):=λb o e=>by rw[jo (sw e h1),jo (sw e h2)];exact e
 have U:∀a,H a=none->Ow G W a:=λa z=>⟨ok.good a (ok.stay.free z),λw=>by obtain⟨_,m,q⟩:=ok.wl a w;rw[z] at q;cases q⟩;refine⟨sm,⟨λa o e=>(EY e).2,λa e=>?_,λa e=>⟨Ap e,.i C dx [],by rw[show a=D from e,m6]⟩,λI s e=>?_,λI Z s s' v k b c d l p t x=>?_,rfl⟩,?_⟩
 ·rcases EZ e with z |z
  ·rw[show a=D from z];exact U D h1
  ·refine U a ?_
   by_cases y:a=D
   ·rw[y];exact h1
   ·rw[jo y] at z
    by_cases V:a=dx
    ·rw[V];exact h2
    ·rwa [jo V] at z
 ·obtain⟨A,q,rfl⟩:=uC e
  cases I with
  |zero =>
    simp at q;subst q;exact⟨.ref D,rfl,D,[],[],rfl,rfl,by simp,λn _=>rfl,⟨C,dx,Y,m6,rfl⟩,.nil⟩
  |succ n=>simp at q
 ·obtain⟨_,f,_⟩:=uC c
  obtain⟨_,g,_⟩:=uC d;cases I with
  |zero=>cases Z with
    |zero=>rfl |succ n=>simp at g
  |succ n=>simp at f
 ·refine r.mono (λa u z=>sm _ _ z) λa us o h=>⟨⟨o,λz=>?_⟩,h.keep λo z=>sm _ _ z⟩
  rw[show a=D from z] at h;rcases h with h | ⟨_,h⟩ <;> (have h2:=h1.symm.trans h;cases h2)
def My{m:ll->k7->ln}(c:mO X.prog X.w X.K X.mg X.base x k (gG X.K m xx))(Z:bC jr X.A)(t:fG X G H0 (e::es) F)(d:k+1<=jr:=by decide)(u:Gl X x:=by walk_at "g")(B:‹starEach (e::es) X.env=(false,eval e X.env)::starEach es X.env›)(f:‹(backTo pos (starEach es X.env)).any (·.1)=false›) :
  qX X G H0 (.Call (.Name x p') (e::es) [] pos) (qZ x m F):=let ⟨_,_,_,_,M,C,E,J,L,g⟩:=c;⟨(Mj M C (Z.mono d) u E J t.out g B f).imp λσ H Q N=>by
 obtain⟨W,env,y,env',ok,q,k⟩:=N;unfold qZ at q;cases e1:F env with
 |none=>rw[e1] at q;cases q
 |some r =>
   rw[e1,ac] at q;cases e2:m [(.ins true x [],[])] r.1 with
   |none=>rw[e2] at q;cases q
   |some z =>
     rw[e2,ac] at q;split at q;case h_2=>cases q
     rename_i n U ps';cases q;refine⟨W,env,r.1,r.2,ok,e1,λW1 vs H1 O V P I dx h1 h2 R=>?_⟩;obtain⟨sm,h,Z⟩:=Mx V L h1 h2 R P;refine⟨_,_,_,_,[.ref I],r.1,vs,rfl,rfl,h,Z,.inl ⟨_,_,e2,λW' en S v H' st Y T rp=>⟨rp.non_,?_⟩⟩⟩;have hs:=T 0 _ rfl;obtain⟨v',z1,s⟩:=Y.slot 0 _ hs;have ev:v'=.ref I:=by
      obtain⟨p,as,us,rfl,_,_,i,_⟩:=s;have i:([I]:ia)=[p]:=i 0 rfl;cases i;rfl
     subst ev;have j:bB H1 H':=λb o z=>st.keep b o (sm b o z) λy=>by rw[show b=I from y,h1] at z;cases z
     have hn:∀a,W' a->H1 a=none:=λa z=>by
      rcases st.ws a z with y |y
      ·rw[show a=I from y];exact h1
      ·cases q:H1 a with
       |none=>rfl |some o=>rw[sm a o q] at y;cases y
     obtain⟨w1,w2,w3,w4⟩:=V.newA (G':=⟨Ow G W1,λ_=>[I]⟩) (k:=.ins true n U) (l:=↑0) (ps:=ps') (p:=I) (k':=.ins false n U) j hn (λa z=>(Y.wl a z).2) (λa z=>.inl z) (λus z=>z) s;exact k _ I H' (O.trans w2) w1 w3 w4⟩
mutual
def noL:D->Bool
 | .lst _=>false | .dct _ _=>false | .tup ds=>noLs ds |_=>true
def noLs:k7->Bool
 | []=>true |d::r=>noL d && noLs r
end
def a_.noL{d:D}{v:V}:a_ K H O d v->L2.noL d=true->a_ K H O' d v :=
 a_.rec (motive_1:=λd v _=>L2.noL d=true->a_ K H O' d v) (motive_2:=λds vs _=>L2.noLs ds=true->aK K H O' ds vs) (λ_=>.non) (λb _=>.bl b) (λb _=>.int b) (λb _=>.str b) (λh _ q e=>.tup h (q (by rw[L2.noL] at e;exact e))) (λ_ _ _ _ e=>by rw[L2.noL] at e;cases e) (λ_ _ _ e=>by rw[L2.noL] at e;cases e) (λ_ _ _ e=>by rw[L2.noL] at e;cases e) (λa _=>.exc a) (λ_=>.nil) λ_ _ p q e=>by rw[L2.noLs,fo] at e;exact .cons (p e.1) (q e.2)
def aK.noLs{ds:k7}{vs:k6}:aK K H O ds vs->L2.noLs ds=true->aK K H O' ds vs :=
 aK.ind (P:=λds vs=>L2.noLs ds=true->aK K H O' ds vs) (λ_=>.nil) λr _ q e=>by rw[L2.noLs,fo] at e;exact .cons (r.noL e.1) (q e.2)
def q_:Pt->D | .d d=>d | .o ds=>.lst ds
def xv(r:Nat):DE0->Option k9
 | []=>none |some (.ag .ls ↑r' ps)::e=>if r'=r then ↑ps else xv r e
 |_::e=>xv r e
def yu:k9->Nat->Option k7
 | .o ds::_,0=>↑ds | .o _::r,j+1=>yu r j | .d _::r,j=>yu r j | [],_=>none
def uQ(b:Bool)(ps:k9):k9:=if b=true then ps.map λp=>.d (q_ p) else ps
def rb(b:Bool)(env:DE0):la->la
 |some (.sh d)=>⇑d |some (.ow ds)=>⇑(.lst ds) |some (.o2 dss)=>⇑(.lst (dss.map D.lst)) |some (.ag .ls _ ps)=>⇑(.lst (ps.map q_)) |some (.ag k _ ps)=>↑(.ro k (uQ b ps)) |some (.ro .ls ps)=>⇑(.lst (ps.map q_)) |some (.ro k ps)=>↑(.ro k (uQ b ps)) |some (.al r j)=>(xv r env).bind λps=>(yu ps j).map λds=>.sh (.lst ds) |none=>none
def frz(b:Bool)(env:DE0):DE0:=env.map (rb b env)
def iR(r:Nat->ia):Gd:=⟨λ_=>True,r⟩
def A5{r:Nat}{ps:k9}:∀ {env:DE0},xv r env=↑ps->∃i:Nat,env[i]?=↑↑(Sl.ag AK.ls ↑r ps)
 |x::e,h=>by
   unfold xv at h;split at h
   ·rename_i D;cases D
   ·rename_i U ps' e' q
    cases q;split at h
    ·rename_i I;cases h;subst I;exact⟨0,rfl⟩
    ·obtain⟨i,z⟩:=A5 h;exact⟨i+1,by simpa using z⟩
   ·rename_i q
    cases q;obtain⟨i,z⟩:=A5 h;exact⟨i+1,by simpa using z⟩
variable{a:Addr}{ps:k9}
def Mz(h:aW K G W H ps as us)(e:yu ps j=↑ds)(ea:as[j]?=↑a):∃vs,H a=↑(.lst vs)/\aK K H (Ow G W) ds vs:=by
 induction h generalizing j with
 |nil=>cases e
 |d _ _ ih=>exact ih e ea |o hW hl r _ ih =>
   cases j with
   |zero=>cases e;simp at ea;subst ea;exact⟨_,hl,r⟩
   |succ j=>exact ih (j:=j) e (by simpa using ea)
def bH.all(h:bH K G W H ps us)(D:∀a,O a):aK K H O (ps.map q_) us:=by
 induction h with
 |nil=>exact .nil |d r _ ih=>exact .cons ((qb λa _=>D a).1 _ _ r) ih |o _ hl r _ ih=>exact .cons (.lst (D _) (.inl hl) ((qb λa _=>D a).2 _ _ r)) ih
def bH.roG(h:bH K G W H ps us)(D:∀a,Ow G W a->Ow G' dA a):bH K G' dA H ps us :=
 h.step (λa vs _ z=>⟨λz=>z,z⟩) (λd v q=>(qb D).1 d v q) λd v q=>(qb D).2 d v q
def aW.toRo(h:aW K G W H ps as us)(D:∀a,Ow G W a->Ow G' dA a):bH K G' dA H ps us :=
 bH.roG (W:=dA) (G:=gd (Ow G W)) h.ro λa z=>D a z.1
def bH.dat(h:bH K G W H ps us)(D:∀a,Ow G W a):bH K G W H (ps.map λp=>.d (q_ p)) us:=by
 induction h with
 |nil=>exact .nil |d r _ ih=>exact .d r ih |o _ hl r _ ih=>exact .d (.lst (D _) (.inl hl) r) ih
def bH.roB(b:Bool)(h:bH K G W H ps us)(D:∀a,Ow G W a):bH K G W H (uQ b ps) us:=by
 unfold uQ;split
 ·exact h.dat D
 ·exact h
def Ok.freeze(b:Bool)(ok:Ok K G H0 W env σ H):Ok K (iR G.r) H dA (frz b env) σ H:=by
 have Y:∀a,Ow G W a->Ow (iR G.r) dA a:=λa _=>⟨trivial,λz=>z⟩;have all:∀a,Ow (iR G.r) dA a:=λa=>⟨trivial,λz=>z⟩;have Z:∀(i:Nat) (s:Sl),(frz b env)[i]?=↑↑s->∃I,env[i]?=↑↑I/\rb b env ↑I=↑s:=λi s e=>by
  unfold frz at e;rw[b8] at e;cases q:env[i]? with
  |none=>rw[q] at e;cases e
  |some o =>
    rw[q] at e;cases o with
    |none=>cases e
    |some I=>exact⟨I,rfl,by simpa using e⟩
 refine⟨bB.refl _,λa _=>trivial,λl z=>z.elim,λi s e=>?_,λi j s s' v A a D _ F _ o _=>?_,by unfold frz;rw[ah];exact ok.len⟩
 ·obtain⟨I,x,D⟩:=Z i s e
  obtain⟨v,B,h⟩:=ok.slot i I x;refine⟨v,B,?_⟩;cases I with
  |sh d=>cases D;exact(qb Y).1 _ _ h
  |ow ds=>cases D;obtain⟨l,vs,rfl,m,U,r⟩:=h;exact .lst (all l) (.inl U) ((qb Y).2 _ _ r)
  |o2 dss =>
    cases D;obtain⟨l,ls,rfl,m,U,nd,hi⟩:=h;exact .lst (all l) (.inl U) (z4 (W':=dA) (G:=iR G.r) (W:=W) ⟨hi.1,λj ds a g n=>let ⟨t,vs,u,C⟩:=hi.2 j ds a g n;⟨t,vs,u,(qb λb z=>⟨trivial,z.2⟩).2 _ _ C⟩⟩ (λa _ _=>all a) λds vs r=>(qb λb _=>all b).2 _ _ r)
  |ag k l ps =>
    obtain⟨p,as,us,rfl,m,nd,U,f,V⟩:=h;cases k with
    |ls=>cases D;exact .lst (all p) (.inl f) ((V.toRo Y).all all)
    |ins _ c fs=>cases D;exact⟨p,us,rfl,λz=>z,f,(V.toRo Y).roB b all⟩
  |ro k ps =>
    obtain⟨p,us,rfl,m,f,V⟩:=h;cases k with
    |ls=>cases D;exact .lst (all p) (.inl f) (V.all all)
    |ins _ c fs=>cases D;exact⟨p,us,rfl,λz=>z,f,(V.roG Y).roB b all⟩
  |al r j =>
    have D:((xv r env).bind λps=>(yu ps j).map λds=>Sl.sh (.lst ds))=↑s:=D;cases q1:xv r env with
    |none=>rw[q1] at D;cases D
    |some ps =>
      rw[q1,ac] at D;cases q2:yu ps j with
      |none=>rw[q2] at D;cases D
      |some ds =>
        rw[q2] at D;cases D;obtain⟨p,as,a,g,n,rfl⟩:=h;obtain⟨E,y⟩:=A5 q1;obtain⟨A,J,p',w,us,rfl,_,_,U,_,V⟩:=ok.slot E _ y;have U:G.r r=p'::w:=U r rfl;rw[U] at g;cases g;obtain⟨vs,t,u⟩:=Mz V q2 n;exact .lst (all a) (.inl t) ((qb Y).2 _ _ u)
 ·obtain⟨I,x,D⟩:=Z i s D
  cases I with
  |sh d=>cases D;exact o.elim
  |ow d=>cases D;exact o.elim
  |o2 d=>cases D;exact o.elim
  |ag k l ps=>cases k <;> (cases D;exact o.elim)
  |ro k ps=>cases k <;> (cases D;exact o.elim)
  |al r j =>
    have D:((xv r env).bind λps=>(yu ps j).map λds=>Sl.sh (.lst ds))=↑s:=D;cases q1:xv r env with
    |none=>rw[q1] at D;cases D
    |some ps =>
      rw[q1,ac] at D;cases q2:yu ps j with
      |none=>rw[q2] at D;cases D
      |some ds=>rw[q2] at D;cases D;exact o.elim
def Step.noW(s:Step dA H W' H'):bB H H':=λb o e=>s.keep b o e λz=>z
def dH(b:Bool)(f:FE):FE:=λe=>(f (frz b e)).bind λr=>if noL r.1=true then ↑(r.1,e) else none
def xu(b:Bool)(f:FA):FA:=λe=>(f (frz b e)).bind λr=>if noLs r.1=true then ↑(r.1,e) else none
def fN(b:Bool)(x:XF):XF:=λe=>(x (frz b e)).map λr=>(r.1,e)
variable{b:Bool}
def y9(h:∀G H0,aT X G H0 e f):aT X G H0 e (dH b f):=⟨λpins s σ H Q I D=>by
 obtain⟨W,env,d,env',ok,q,k⟩:=D;unfold dH at q;cases e1:f (frz b env) with
 |none=>rw[e1] at q;cases q
 |some r =>
   rw[e1,ac] at q;split at q;case isFalse=>cases q
   rename_i U;cases q;refine(h (iR G.r) H).out pins s σ H Q I ⟨dA,frz b env,r.1,r.2,ok.freeze b,e1,λW' v H' st V Y=>?_⟩;exact k W v H' (Step.same st.noW) (ok.same st.noW) (Y.noL U)⟩
def Fo(h:∀G H0,gI X G H0 e F):gI X G H0 e (xu b F):=⟨λpins s σ H Q I V=>by
 obtain⟨W,env,d,env',ok,q,k⟩:=V;unfold xu at q;cases e1:F (frz b env) with
 |none=>rw[e1] at q;cases q
 |some r =>
   rw[e1,ac] at q;split at q;case isFalse=>cases q
   rename_i Y;cases q;refine(h (iR G.r) H).out pins s σ H Q I ⟨dA,frz b env,r.1,r.2,ok.freeze b,e1,λW' l vs H' st Z a j U c=>?_⟩;have D:H l=none:=(st.ws l (.inr rfl)).elim (λz=>z.elim) id;obtain⟨f,m,g,i⟩:=ok.fresh0 (H':=H') st.noW D U;exact k W l vs H' i (ok.same st.noW) g f U (c.noLs Y)⟩
def uR(h:∀G H0,JX X G H0 e y):JX X G H0 e (fN b y):=⟨λpins s σ H Q I D=>by
 obtain⟨W,env,c,env',ok,q,k⟩:=D;unfold fN at q;cases e1:y (frz b env) with
 |none=>rw[e1] at q;cases q
 |some r =>
   rw[e1] at q;cases q;exact(h (iR G.r) H).out pins s σ H Q I ⟨dA,frz b env,r.1,r.2,ok.freeze b,e1,λW' H' C U st V=>k W H' C U (Step.same st.noW) (ok.same st.noW)⟩⟩
def Ok.newW(ok:Ok K G H0 W env σ H)(sm:bB H H')(I:∀a,W' a->H a=none)(U:∀a,W' a->∃m:Mo,H' a=↑m.out):Ok K G H0 (λa=>W a\/W' a) env σ H'/\Step W H (λa=>W a\/W' a) H':=by
 have st:Step W H (λa=>W a\/W' a) H':=⟨λb o e _=>sm b o e,λa z=>z.imp id (I a)⟩;have D:=ok.same sm;refine⟨⟨D.stay,ok.good,λa z=>?_,λi s e=>?_,D.uniq,ok.len⟩,st⟩
 ·rcases z with z |z
  ·exact D.wl a z
  ·exact⟨ok.stay.free (I a z),U a z⟩
 ·obtain⟨v,V,q⟩:=ok.slot i s e
  exact⟨v,V,ok.slstep st q λa m o Y=>⟨.inl (q.owns o),sm _ _ Y⟩⟩
def jY:la->la
 |some (.sh d)=>⇑d |some (.ag k _ ps)=>↑(.ro k ps) |some (.ro k ps)=>↑(.ro k ps) |_=>none
def dF(env:DE0):DE0:=env.map jY
def jM(G:Gd)(W:Addr->Prop)(H:Hp):Gd:=⟨λa=>Ow G W a\/H a=none,G.r⟩
def Ok.freezeS(ok:Ok K G H0 W env σ H):Ok K (jM G W H) H dA (dF env) σ H:=by
 have V:∀a,Ow G W a->Ow (jM G W H) dA a:=λa z=>⟨.inl z,λz=>z⟩;have U:∀(i:Nat) (s:Sl),(dF env)[i]?=↑↑s->∃I,env[i]?=↑↑I/\jY ↑I=↑s:=λi s e=>by
  unfold dF at e;rw[b8] at e;cases q:env[i]? with
  |none=>rw[q] at e;cases e
  |some o =>
    rw[q] at e;cases o with
    |none=>cases e
    |some I=>exact⟨I,rfl,by simpa using e⟩
 refine⟨bB.refl _,λa z=>.inr z,λl z=>z.elim,λi s e=>?_,λi j s s' v g a D _ m _ o _=>?_,by unfold dF;rw[ah];exact ok.len⟩
 ·obtain⟨I,b,D⟩:=U i s e
  obtain⟨v,c,h⟩:=ok.slot i I b;refine⟨v,c,?_⟩;cases I with
  |sh d=>cases D;exact(qb V).1 _ _ h
  |ow ds=>cases D
  |o2 dss=>cases D
  |ag k l ps=>cases D;obtain⟨p,as,us,rfl,f,nd,n,Y,Z⟩:=h;exact⟨p,us,rfl,λz=>z,Y,Z.toRo V⟩
  |ro k ps=>cases D;obtain⟨p,us,rfl,f,Y,Z⟩:=h;exact⟨p,us,rfl,λz=>z,Y,Z.roG V⟩
  |al r j=>cases D
 ·obtain⟨I,b,D⟩:=U i s D
  cases I <;> cases D <;> exact o.elim
def aW.length(h:aW K G W H ps as us):ps.length=us.length:=by
 induction h with
 |nil=>rfl |d _ _ ih=>rw[ao,ao,ih] |o _ _ _ _ ih=>rw[ao,ao,ih]
abbrev FP:=DE0->Option k9
def M0(X:Cx)(G:Gd)(H0:Hp)(f:FP):TA:=λσ H Q=>∃W env ps,Ok X.K G H0 W env σ H/\f env=↑ps /\
 ∀as us H',bB H H'->as.Nodup->(∀a∈as,H a=none)->aW X.K (jM G W H) (λa=>a∈as) H' ps as us->Q us H'
structure oB (X:Cx) (G:Gd) (H0:Hp) (es:i0) (f:FP):Prop where
 out:PA X es (M0 X G H0 f)
def mU:FP:=λ_=>↑[]
def rd(f:FE)(g:FP):FP:=λe=>(f (dF e)).bind λr=>(g e).map λt=>.d r.1::t
def ri(F:FA)(g:FP):FP:=λe=>(F (dF e)).bind λr=>(g e).map λt=>.o r.1::t
def Rd.some{u:HO}(h:Rd H a u):H a≠none:=λz=>by rcases h with h | ⟨_,h⟩ <;> rw[z] at h <;> cases h
def M3  : oB X G H0 [] mU:=⟨uz.imp λσ H Q D=>by
 obtain⟨W,env,ps,ok,q,k⟩:=D;cases q;exact k [] [] H (bB.refl _) .nil (λa z=>by cases z) .nil⟩
def Fp(h:∀G H0,aT X G H0 e f)(U:oB X G H0 es g)(V:‹starEach (e::es) X.env=(false,eval e X.env)::starEach es X.env›):oB X G H0 (e::es) (rd f g):=⟨λpos pins s σ H Q I Y=>by
 obtain⟨W,env,ps,ok,q,k⟩:=Y;unfold rd at q;cases e1:f (dF env) with
 |none=>rw[e1] at q;cases q
 |some r =>
   rw[e1,ac] at q;cases e2:g env with
   |none=>rw[e2] at q;cases q
   |some t =>
     rw[e2] at q;cases q;refine(qu (h (jM G W H) H).out U.out V) pos pins s σ H Q I ⟨dA,dF env,r.1,r.2,ok.freezeS,e1,λW1 v H1 st Z b=>?_⟩;refine⟨W,env,t,ok.same st.noW,e2,λas us H2 sm nd D c=>?_⟩;refine k as (v::us) H2 (st.noW.trans sm) nd (λa z=>st.noW.free (D a z)) (.d (b.mono (λa u z=>sm _ _ z) λa vs o z=>⟨⟨o.1,λy=>z.some (D a y)⟩,z.keep λo y=>sm _ _ y⟩) (c.step (λa vs i z=>⟨i,z⟩) (λd v q=>(qb ?_).1 d v q) λd v q=>(qb ?_).2 d v q)) <;>
     exact λa z=>⟨z.1.imp id λy=>st.noW.free y,z.2⟩⟩
def Fq(h:∀G H0,gI X G H0 e F)(c:oB X G H0 es g)(f:‹starEach (e::es) X.env=(false,eval e X.env)::starEach es X.env›):oB X G H0 (e::es) (ri F g):=⟨λpos pins s σ H Q I i=>by
 obtain⟨W,env,ps,ok,q,k⟩:=i;unfold ri at q;cases e1:F (dF env) with
 |none=>rw[e1] at q;cases q
 |some r =>
   rw[e1,ac] at q;cases e2:g env with
   |none=>rw[e2] at q;cases q
   |some t =>
     rw[e2] at q;cases q;refine(qu (h (jM G W H) H).out c.out f) pos pins s σ H Q I ⟨dA,dF env,r.1,r.2,ok.freezeS,e1,λW1 l vs H1 st j m C D n=>?_⟩;have Z:H l=none:=(st.ws l (.inr rfl)).elim (λz=>z.elim) id;obtain⟨U,_⟩:=ok.newW (W':=λa=>a=l) st.noW (λa z=>by rw[z];exact Z) λa z=>⟨.l vs,by rw[z];exact D⟩;refine⟨_,env,t,U,e2,λas us H2 sm nd V p=>?_⟩;have Y:l∉as:=λz=>by rw[V l z] at D;cases D
     have h1:∀a∈l::as,H a=none:=λa z=>by
      rcases cr.mp z with rfl |z
      ·exact Z
      ·exact st.noW.free (V a z)
     have x:aK X.K H2 (Ow (jM G W H) λa=>a∈l::as) r.1 vs:=n.mono (λa u z=>sm _ _ z) λa vs o z=>by
      refine⟨⟨o.1,λy=>?_⟩,z.keep λo y=>sm _ _ y⟩;rcases cr.mp y with y |y
      ·exact o.2 (.inr y)
      ·exact z.some (V a y)
     have b:∀a,Ow (jM G (λa=>W a\/a=l) H1) (λa=>a∈as) a->Ow (jM G W H) (λa=>a∈l::as) a:=λa o=>by
      have A:a≠l:=λz=>by
       rcases o.1 with y |y
       ·exact y.2 (.inr z)
       ·rw[z,D] at y;cases y
      refine⟨o.1.imp (λy=>⟨y.1,λw=>y.2 (.inl w)⟩) λy=>st.noW.free y,λy=>?_⟩;rcases cr.mp y with y |y
      ·exact A y
      ·exact o.2 y
     exact k (l::as) (.ref l::us) H2 (st.noW.trans sm) (ci.mpr ⟨Y,nd⟩) h1 (.o bi (sm _ _ D) x (p.step (λa vs B z=>⟨ay _ B,z⟩) (λd v q=>(qb b).1 d v q) λd v q=>(qb b).2 d v q))⟩
def k_(g:FP):FG:=λe=>(g e).bind λps=>if ps.length<=64 then ↑((.ls,ps),e) else none
theorem M4(h:oB X G H0 es g):qX X G H0 (.List es pos) (k_ g):=⟨(Dq h.out).imp λσ H Q V=>by
 obtain⟨W,env,x,env',ok,q,k⟩:=V;unfold k_ at q;cases e1:g env with
 |none=>rw[e1] at q;cases q
 |some ps =>
   rw[e1,ac] at q;split at q;case isFalse=>cases q
   cases q;refine⟨W,env,ps,ok,e1,λas us H1 sm nd Y U=>⟨?_,λp I=>?_⟩⟩
   ·rw[<-U.length,i4];lia
   ·have D:bB H1 (aV H1 p (.lst us)):=lU I
    have Z:p∉as:=λz=>by obtain⟨_,vs,y⟩:=U.own z;rw[I] at y;cases y
    have sl:dW X.K (jM G W H) (λa=>a=p\/a∈as) (aV H1 p (.lst us)) (.ag .ls none ps) (.ref p):=by
     refine⟨p,as,us,rfl,.inl rfl,ci.mpr ⟨Z,nd⟩,(λn z=>nomatch z),m6,U.step (λa vs b z=>⟨.inr b,D _ _ z⟩) (λd v q=>q.mono (λa u z=>D _ _ z) ?_) λd v q=>q.mono (λa u z=>D _ _ z) ?_⟩ <;>
     exact λa vs o z=>⟨⟨o.1,λy=>y.elim (λy=>z.some (y ▸ I)) o.2⟩,z.keep λo y=>D _ _ y⟩
    have c:∀a,a=p\/a∈as->H a=none:=λa z=>by
     rcases z with rfl |z
     ·exact sm.free I
     ·exact Y a z
    have e:∀a,a=p\/a∈as->∃m:Mo,aV H1 p (.lst us) a=↑m.out:=λa z=>by
     rcases z with rfl |z
     ·exact⟨.l us,m6⟩
     ·obtain⟨_,vs,y⟩:=U.own z
      exact⟨.l vs,D _ _ y⟩
    obtain⟨f,i,j,r⟩:=ok.newA (k':=.ls) (sm.trans D) c e (λa z=>z) (λus z=>z) sl;exact k _ p _ i f j r⟩
def ur(κ:AK)(i j:Nat):FE:=λe=>if kK κ e i then(cX e i).bind λx=>(match x.2[j]? with |some (.d d)=>↑(d,e) |_=>none) else none
def yb(c:qT X.K cn m)(an:bR Nn Cn X)(U:‹Nn[i]?=↑x›)(Z:‹fs[j]?=↑m›)(nd:fs.Nodup:=by decide +kernel)(f:‹attributeBase (.Name x p') m X.env (eval (.Name x p') X.env)=eval (.Name x p') X.env›):aT X G H0 (.Attribute (.Name x p') m pos) (ur (.ins false cn fs) i j):=let ⟨C,c,b,e⟩:=c;⟨(Do ((an.a U).pe) f).imp λσ H Q g=>by
  obtain⟨W,env,d,env',ok,q,k⟩:=g;unfold ur at q;split at q;case isFalse=>cases q
  rename_i h;cases D:cX env i with
  |none=>rw[D] at q;cases q
  |some y =>
    rw[D,ac] at q;split at q;case h_2=>cases q
    rename_i d' hd;cases q;rcases h with⟨l,ps',z⟩ | ⟨ps',z⟩
    ·have D:↑(AK.ins false cn fs,ps')=↑y:=by unfold cX at D;rw[z] at D;exact D
     cases D;obtain⟨v,D,p,as,us,rfl,_,_,_,⟨n,dx,V,I,o⟩,Y⟩:=ok.slot i _ z;rw[Cl.inj V e] at I;obtain⟨u,h1,h2⟩:=Y.getD hd;exact⟨_,D,p,C,dx,_,u,rfl,I,c,b,A4 nd Z h1,k W u H Step.refl ok h2⟩
    ·have D:↑(AK.ins false cn fs,ps')=↑y:=by unfold cX at D;rw[z] at D;exact D
     cases D;obtain⟨v,D,p,us,rfl,_,⟨n,dx,V,I,o⟩,Y⟩:=ok.slot i _ z;rw[Cl.inj V e] at I;obtain⟨u,h1,h2⟩:=Y.getD hd;exact⟨_,D,p,C,dx,_,u,rfl,I,c,b,A4 nd Z h1,k W u H Step.refl ok h2⟩⟩
variable{l:Addr}
def Ok.chgN(ok:Ok K G H0 W env σ H){s s':Sl}{v:V}(U:Mo)(e:env[i]?=↑↑s)(Y:σ[i]?=↑↑v)(B:bL H s v a)(E:dW K G W (aV H a U.out) s' v)(C:∀(j:Nat) (s:Sl) (v:V),env[j]?=↑↑s->σ[j]?=↑↑v->¬bL H s v l)(w:∀b,bL (aV H a U.out) s' v b->bL H s v b\/b=l):Ok K G H0 W (env.set i ↑s') σ (aV H a U.out)/\Step W H W (aV H a U.out):=by
 have m:W a:=by obtain⟨F,r,h⟩:=ok.slot i s e;rw[Y] at r;cases r;exact h.owns B
 have st:Step W H W (aV H a U.out):=⟨λb o q n=>by rw[jo (λz:b=a=>n (by rw[z];exact m))];exact q,λb z=>.inl z⟩;have y:∀ {j:Nat} {sl:Sl} {u:V} {b:Addr},i≠j->env[j]?=↑↑sl->σ[j]?=↑↑u->bL H sl u b->b≠a:=λ{j sl u b} hj q Z o z=>by
  subst z;exact hj (ok.uniq i j s sl v u b e q Y Z B o)
 have bk:∀ {j:Nat} {sl:Sl} {u:V} {b:Addr},i≠j->env[j]?=↑↑sl->σ[j]?=↑↑u->bL (aV H a U.out) sl u b->bL H sl u b:=λ{j sl u b} hj q Z o=>by
  obtain⟨J,f,h⟩:=ok.slot j sl q;rw[Z] at f;cases f;cases sl with
  |sh d=>exact o.elim |ow ds=>exact o |o2 dss=>exact h.back (λl D _ vs I=>by rw[jo (y hj q Z (.inl D))];exact I) o |ag k p ps=>exact h.back (λl D _ vs I=>by rw[jo (y hj q Z (.inl D))];exact I) o |al _ _=>exact o.elim |ro _ _=>exact o.elim
 refine⟨⟨λb o q=>?_,ok.good,λb z=>?_,λj sl q=>?_,λj k A s2 v1 v2 b Z f D I g o2=>?_,by rw[d9,ok.len]⟩,st⟩
 ·rw[jo (λz=>by rw[z,(ok.wl a m).1] at q;cases q)];exact ok.stay b o q
 ·obtain⟨q,us,w⟩:=ok.wl b z
  by_cases h:b=a
  ·exact⟨q,U,by rw[h,m6]⟩
  ·exact⟨q,us,by rw[jo h];exact w⟩
 ·rcases t0 q with⟨rfl,x,_⟩ | ⟨hj,x⟩
  ·cases x
   exact⟨v,Y,E⟩
  ·obtain⟨u,r,h⟩:=ok.slot j sl x
   exact⟨u,r,ok.slstep st h λb vs o f=>⟨h.owns o,by rw[jo (y hj x r o)];exact f⟩⟩
 ·rcases t0 Z with⟨a1,b1,_⟩ | ⟨a1,b1⟩ <;> rcases t0 f with⟨t,c,_⟩ | ⟨t,c⟩
  ·rw[<-a1,<-t]
  ·subst a1;cases b1
   rw[Y] at D;cases D;have o2:=bk t c I o2;rcases w b g with z |z
   ·exact ok.uniq i k s s2 v v2 b e c Y I z o2
   ·subst z;exact absurd o2 (C k s2 v2 c I)
  ·subst t;cases c
   rw[Y] at I;cases I;have g:=bk a1 b1 D g;rcases w b o2 with z |z
   ·exact ok.uniq j i A s v1 v b b1 e D Y g z
   ·subst z;exact absurd g (C j A v1 b1 D)
  ·exact ok.uniq j k A s2 v1 v2 b b1 c D I (bk a1 b1 D g) (bk t c I o2)
def aW.snoc(h:aW K G W H ps as us)(D:W l)(I:H l=↑(.lst vs))(r:aK K H (Ow G W) ds vs):aW K G W H (ps++[.o ds]) (as++[l]) (us++[.ref l]):=by
 induction h with
 |nil=>exact .o D I r .nil |d q _ ih=>exact .d q ih |o a b c _ ih=>exact .o a b c ih
def Fs{f:Str}{v:V}:∀ {fs:h6} {us:k6},f∉fs->fs.length=us.length->eD f v (fs.zip us)=(fs++[f]).zip (us++[v])
 | [],[],_,_=>rfl |g::fs,u::us,hf,hl=>by
   have:g≠f:=λz=>hf (by simp[z]);rw[jy,im,im,jy];show(if g=f then(g,v)::fs.zip us else(g,u)::eD f v (fs.zip us))=_;rw[b7 this,Fs (λz=>hf (by simp[z])) (by simpa using hl)]
def rk(i:Nat)(cn f:Str)(F:FA):FS:=λe=>(F e).bind λr=>match r.2[i]? with
 |some ↑(.ag (.ins true c fs) l ps)=>if c=cn/\f∉fs/\fs.length<900 then ↑(.nx,r.2.set i ↑(.ag (.ins true c (fs++[f])) l (ps++[.o r.1]))) else none
 |_=>none
variable{value:Expr}
theorem Ft(T:qT X.K cn m)(an:bR Nn Cn X)(he:gI X G H0 value F)(f:‹Nn[i]?=↑x›)(hs:‹swapsWith value ↑(.Attribute (.Name x p') m p1) pos.line X.env=pure false›) :
  eZ X G H0 (.Assign [.Attribute (.Name x p') m p1] value pos) (rk i cn m F):=let ⟨C,c,hn,g⟩:=T;⟨(Js ((an.a f).pe) he.out hs).imp λDn σ H zq=>by
 obtain⟨W,env,fl,env',ok,q,k⟩:=zq;unfold rk at q;cases e1:F env with
 |none=>rw[e1] at q;cases q
 |some r =>
   rw[e1,ac] at q;split at q;case h_2=>cases q
   rename_i L fs l ps t;split at q;case isFalse=>cases q
   rename_i u;obtain⟨rfl,hf,M⟩:=u;cases q;refine⟨W,env,r.1,r.2,ok,e1,λW1 ad vs H1 s1 Y D N O rp=>?_⟩;obtain⟨v,A,p,as,us,rfl,P,nd,hr,⟨C',dx,z1,I,d⟩,U⟩:=D.slot i _ t;rw[Cl.inj z1 g] at I;have Q:p≠ad:=λz=>by rw[z,O] at I;cases I
   have na:ad∉as:=λz=>by
    obtain⟨v',e,h⟩:=Y.slot i _ t;rw[A] at e;cases e;exact N (h.owns (.inr ⟨p,us,rfl,⟨d,C,dx,I⟩,U.parts_iff.mpr z⟩))
   refine⟨_,A,p,C,dx,fs.zip us,rfl,I,c,hn,?_,?_⟩
   ·rw[xp];lia
   ·have st:Step (cF W1 ad) H1 (cF W1 ad) (aV H1 p (.ins C dx ((fs++[m]).zip (us++[.ref ad])))):=⟨λb o q n=>by rw[jo (λz:b=p=>n (by rw[z];exact P))];exact q,λb z=>.inl z⟩
    have B:aV H1 p (.ins C dx ((fs++[m]).zip (us++[.ref ad]))) ad=↑(.lst vs):=by rw[jo (Ne.symm Q)];exact O
    have E:aW X.K G (cF W1 ad) (aV H1 p (.ins C dx ((fs++[m]).zip (us++[.ref ad])))) ps as us:=U.step (λb ws R z=>⟨(U.own R).1,by rw[jo (λy:b=p=>by subst y;exact(ci.mp nd).1 R)];exact z⟩) (λ_ _ r=>D.rep st r) λ_ _ r=>D.reps st r;have Z:(fs++[m]).length=(us++[V.ref ad]).length:=by rw[ak,ak,d];rfl
    obtain⟨w1,w2⟩:=D.chgN (l:=ad) (s':=.ag (.ins true L (fs++[m])) l (ps++[.o r.1])) (.i C dx ((fs++[m]).zip (us++[.ref ad]))) t A (.inl rfl)
     ⟨p,as++[ad],us++[.ref ad],rfl,P,by
      rw[ci] at nd ⊢;refine⟨λz=>?_,m7.mpr ⟨nd.2,by simp,λy hy z u=>?_⟩⟩
      ·rcases dy.mp z with z |z
       ·exact nd.1 z
       ·exact Q (d6.mp z)
      ·rw[d6.mp u];exact λw=>na (w ▸ hy),hr,⟨C,dx,g,m6,Z⟩,E.snoc (.inr rfl) B (D.reps st rp)⟩
     (λj s v e e4=>Y.noOwn N j s v e e4) λb J=>by
       rcases J with J | ⟨p',us',z,y,j,ds,h1,h2⟩
       ·exact .inl (.inl J)
       ·cases z
        have ey:us'=us++[.ref ad]:=lT (K:=X.K) (k:=.ins true L (fs++[m])) (us:=us++[.ref ad]) ⟨C,dx,g,m6,Z⟩ y;rw[ey] at h2;by_cases S:j<ps.length
        ·rw[bg S] at h1
         rw[bg (by rw[<-U.length];exact S)] at h2;exact .inl (.inr ⟨p,us,rfl,⟨d,C,dx,I⟩,j,ds,h1,h2⟩)
        ·rw[dc (by rw[<-U.length];lia),<-U.length] at h2
         cases hjj:j-ps.length with
         |zero=>rw[hjj] at h2;simp at h2;exact .inr h2.symm |succ n=>rw[hjj] at h2;simp at h2
    rw[Fs hf d];exact k _ σ _ (s1.trans w2) w1⟩
end L2
namespace L2
open PySem
abbrev kr:h6:=["kept", "states"]
end L2
namespace L2
open PySem PySem.Spec PyProof.Rows
def yt(i:Nat)(g:FE)(F:FA):FS:=λe=>(F e).bind λr=>match r.2[i]? with
 |some ↑(.o2 dss)=>(g (dF r.2)).bind λq=>(match q.1 with | .int k=>(dV dss.length k).map λj=>(.nx,r.2.set i ↑(.o2 (dss.set j r.1))) |_=>none)
 |_=>none
def uS(i:Nat)(g h f:FE):FS:=λe=>(f e).bind λr=>match r.2[i]? with
 |some ↑(.o2 dss)=>(g (dF r.2)).bind λq=>(h (dF r.2)).bind λp=>(match q.1,p.1 with
   | .int k,.int m=>(dV dss.length k).bind λj=>(dss[j]?).bind λds=>(dV ds.length m).map λn=>(.nx,r.2.set i ↑(.o2 (dss.set j (ds.set n r.1))))
   |_,_=>none)
 |_=>none
variable{G:Gd}{H0 H:Hp}{i:Nat}{K:kf}{W:Addr->Prop}{env:DE0}{σ:St}
theorem Ok.swap2(Y:Ok K G H0 W env σ H){l:Addr}{us:k6}{ds:k7}{dss:List k7}{j:Nat}{v:V}(ok:Ok K G H0 (cF W l) env σ H)(A:¬W l)(hl:H l=↑(.lst us))(r:aK K H (Ow G (cF W l)) ds us)(B:env[i]?=↑↑(.o2 dss))(C:σ[i]?=↑↑v)(hj:j<dss.length) :
  ∃(L:Addr) (ls:ia),v=.ref L/\H L=↑(.lst (ls.map V.ref))/\ls.length=dss.length/\Ok K G H0 (cF W l) (env.set i ↑(.o2 (dss.set j ds))) σ (aV H L (.lst ((ls.set j l).map V.ref)))/\Step (cF W l) H (cF W l) (aV H L (.lst ((ls.set j l).map V.ref))):=by
 obtain⟨v1,R,L,ls,rfl,S,E,nd,hi⟩:=Y.slot i _ B;rw[C] at R;cases R;have Z:cF W l L:=.inl S;have st:Step (cF W l) H (cF W l) (aV H L (.lst ((ls.set j l).map V.ref))):=⟨λb o q n=>by rw[jo (λz:b=L=>n (by rw[z];exact Z))];exact q,λb z=>.inl z⟩;have nl:∀(k:Nat) (s:Sl) (u:V),env[k]?=↑↑s->σ[k]?=↑↑u->¬bL H s u l:=λk s u F t o=>by
  obtain⟨u',T,h⟩:=Y.slot k s F;rw[t] at T;cases T;exact A (h.owns o)
 have a:l≠L:=λz=>A (z ▸ S);have I:=hi.1;have U:∀(k:Nat) (c:Addr),(ls.set j l)[k]?=↑c->(j=k/\c=l)\/(j≠k/\ls[k]?=↑c):=λk c q=>by
  rcases t0 q with⟨e,q,_⟩ |q
  ·exact .inl ⟨e,q⟩
  ·exact .inr q
 have J:(L::ls.set j l).Nodup:=by
  refine ci.mpr ⟨λz=>?_,?_⟩
  ·obtain⟨k,d⟩:=List.mem_iff_getElem?.mp z
   rcases U k L d with⟨_,e⟩ | ⟨_,e⟩
   ·exact a e.symm
   ·exact(ci.mp nd).1 (bc e)
  ·refine List.pairwise_iff_getElem.mpr λk1 k2 M f aa z=>?_
   obtain⟨c2,hc2⟩:∃c,(ls.set j l)[k2]?=↑c:=⟨_,am f⟩;have N:(ls.set j l)[k1]?=↑c2:=by rw[<-hc2,am M,am f,z]
   have g:∀k c,ls[k]?=↑c->c≠l:=λk c q w=>A (w ▸ (hi.2 k (dss[k]'(by rw[<-I];exact(aj.mp q).1)) c (am _) q).1);rcases U k1 c2 N with⟨a1,b1⟩ | ⟨a1,b1⟩ <;> rcases U k2 c2 hc2 with⟨a2,x⟩ | ⟨a2,x⟩
   ·lia
   ·exact g _ _ x b1
   ·exact g _ _ b1 x
   ·have:=zv (ci.mp nd).2 b1 x;lia
 refine⟨L,ls,rfl,E,I,?_⟩;refine ok.chgN (.l _) B C (.inl rfl) ⟨L,ls.set j l,rfl,Z,m6,J,by simp[I],λk es c F t=>?_⟩ nl λb o=>?_
 ·rcases t0 F with⟨rfl,z,_⟩ | ⟨d,q'⟩
  ·cases z
   rcases U j c t with⟨_,rfl⟩ | ⟨y,_⟩
   ·exact⟨.inr rfl,us,by rw[jo a];exact hl,ok.reps st r⟩
   ·exact absurd rfl y
  ·rcases U k c t with⟨y,_⟩ | ⟨_,y⟩
   ·exact absurd y d
   ·obtain⟨O,vs,X,rc⟩:=hi.2 k es c q' y
    have ne:c≠L:=λz=>(ci.mp nd).1 (z ▸ bc y);refine⟨.inl O,vs,by rw[jo ne];exact X,?_⟩;obtain⟨v2,e2,L2,ab,e3,_,m,_,P⟩:=ok.slot i _ B;rw[C] at e2;cases e2;cases e3;rw[E] at m;have:=lS (by simpa using m);subst this;obtain⟨_,vs',p,Q⟩:=P.2 k es c q' y;rw[X] at p;cases p;exact ok.reps st Q
 ·rcases o with o | ⟨L',ls',z,q,hb⟩
  ·exact .inl (.inl o)
  ·cases z
   rw[m6] at q;have:=lS (show(ls.set j l).map V.ref=ls'.map V.ref by simpa using q);subst this;obtain⟨k,d⟩:=List.mem_iff_getElem?.mp hb;rcases U k b d with⟨_,e⟩ | ⟨_,e⟩
   ·exact .inr e
   ·exact .inl (.inr ⟨L,ls,rfl,E,bc e⟩)
variable{Nn Cn:h6}{X:Cx}{b e:Expr}{g:FE}{F:FA}{x:Str}{pos p' p1:Pos}
def Fu(o:∀G H0,aT X G H0 b g)(p:gI X G H0 e F)(an:bR Nn Cn X)(d:‹Nn[i]?=↑x›)(t:‹swapsWithSole [.Subscript (.Name x p') b p1] e pos.line X.env=pure false›)(u:‹swappedStores [.Subscript (.Name x p') b p1] e X.env=pure none›)(h1:‹(assignEach [.Subscript (.Name x p') b p1] X.env).map (·.2)=[assign (.Subscript (.Name x p') b p1) X.env]›)(U:∀v,assign (.Subscript (.Name x p') b p1) X.env v=(do
   let ov <-holding [v] (eval (.Name x p') X.env);let iv <-holding [v,ov] (eval b X.env)
   standAt p1
   holding [v,ov,iv] (setItem ov iv v)
   release [v,ov,iv] []):=by intro _;rfl) :
  eZ X G H0 (.Assign [.Subscript (.Name x p') b p1] e pos) (yt i g F):=⟨λpins s σ H Dn I w=>by
 obtain⟨W,env,fl,env',ok,q,k⟩:=w;unfold yt at q;cases e1:F env with
 |none=>rw[e1] at q;cases q
 |some r =>
   rw[e1,ac] at q;split at q;case h_2=>cases q
   rename_i dss h;cases e2:g (dF r.2) with
   |none=>rw[e2] at q;cases q
   |some r2 =>
     rw[e2,ac] at q;split at q;case h_2=>cases q
     rename_i kk f;cases e3:dV dss.length kk with
     |none=>rw[e3] at q;cases q
     |some j =>
       rw[e3] at q;cases q;have y:j<dss.length:=(tp e3).2.1;refine(pJ p.out (sS ((an.a d).pe) (gC (X:=X) rfl o) nH U) t u h1) pins s σ H Dn I ⟨W,env,r.1,r.2,ok,e1,λW1 l us H1 z V D A B C=>?_⟩;obtain⟨v,m,_⟩:=V.slot i _ h;refine⟨_,m,jM G (cF W1 l) H1,H1,dA,dF r.2,r2.1,r2.2,D.freezeS,e2,λK v2 H2 s2 E Y=>?_⟩;have sm:=s2.noW;rw[f] at Y;obtain⟨L,ls,rfl,J,Z,n,c⟩:=Ok.swap2 (V.same sm) (D.same sm) A (sm _ _ B) ((D.reps (Step.same sm) C)) h m y;exact⟨L,_,kk,j,rfl,Y.int_,J,by rw[ah,Z];exact e3,by rw[jz] at n c;exact k _ _ _ ((z.trans (Step.same sm)).trans c) n⟩⟩
variable{a:Expr}{f h:FE}{p2:Pos}
theorem M5(J:∀G H0,aT X G H0 a g)(K:∀G H0,aT X G H0 b h)(M:aT X G H0 e f)(an:bR Nn Cn X)(m:‹Nn[i]?=↑x›)(p:lQ a:=by intro _ _;rfl)(N:‹swapsWithSole [.Subscript (.Subscript (.Name x p') a p2) b p1] e pos.line X.env=pure false›)(O:‹swappedStores [.Subscript (.Subscript (.Name x p') a p2) b p1] e X.env=pure none›)(h1:‹(assignEach [.Subscript (.Subscript (.Name x p') a p2) b p1] X.env).map (·.2)=[assign (.Subscript (.Subscript (.Name x p') a p2) b p1) X.env]›)(Z:∀v,assign (.Subscript (.Subscript (.Name x p') a p2) b p1) X.env v=(do
   let ov <-holding [v] (eval (.Subscript (.Name x p') a p2) X.env);let iv <-holding [v,ov] (eval b X.env)
   standAt p1
   holding [v,ov,iv] (setItem ov iv v)
   release [v,ov,iv] []):=by intro _;rfl) :
  eZ X G H0 (.Assign [.Subscript (.Subscript (.Name x p') a p2) b p1] e pos) (uS i g h f):=⟨λpins s σ H Dn I P=>by
 obtain⟨W,env,fl,env',ok,q,k⟩:=P;unfold uS at q;cases e1:f env with
 |none=>rw[e1] at q;cases q
 |some r =>
   rw[e1,ac] at q;split at q;case h_2=>cases q
   rename_i dss t;cases e2:g (dF r.2) with
   |none=>rw[e2] at q;cases q
   |some r2 =>
     rw[e2,ac] at q;cases e3:h (dF r.2) with
     |none=>rw[e3] at q;cases q
     |some r3 =>
       rw[e3,ac] at q;split at q;case h_2=>cases q
       rename_i kk mm u w;cases e4:dV dss.length kk with
       |none=>rw[e4] at q;cases q
       |some j =>
         rw[e4,ac] at q;cases e5:dss[j]? with
         |none=>rw[e5] at q;cases q
         |some ds =>
           rw[e5,ac] at q;cases e6:dV ds.length mm with
           |none=>rw[e6] at q;cases q
           |some n =>
             rw[e6] at q;cases q;refine(pJ M.out (sS (pT tE ((an.a m).pe) (gC (X:=X) rfl J) p) (gC (X:=X) rfl K) nH Z) N O h1) pins s σ H Dn I ⟨W,env,r.1,r.2,ok,e1,λW1 v1 H1 Q U R=>?_⟩;obtain⟨v,y,_⟩:=U.slot i _ t;refine⟨_,y,jM G W1 H1,H1,dA,dF r.2,r2.1,r2.2,U.freezeS,e2,λW2 v2 H2 s2 S d=>?_⟩;have sm:=s2.noW;rw[u] at d;have V:=U.same sm;obtain⟨L,ls,c,vs,rfl,E,A,B,T,F⟩:=Lc V t y e4 e5;refine⟨L,_,kk,.ref c,rfl,d.int_,.inl (.inl E),B,jM G W1 H2,H2,dA,dF r.2,r3.1,r3.2,V.freezeS,e3,λW3 v3 H3 s3 aa l=>?_⟩;have D:=s3.noW;rw[w] at l;have C:=V.same D;have Y:bB H1 H3:=λb o z=>D b o (sm b o z);obtain⟨t1,t2⟩:=C.turn2 t y (D _ _ E) e5 A (aK.set (U.rep (Step.same Y) R) n (V.reps (Step.same D) F));exact⟨c,vs,mm,n,rfl,l.int_,D _ _ T,by rw[<-F.length];exact e6,k _ _ _ ((Q.trans (Step.same Y)).trans t2) t1⟩⟩
end L2
namespace L2
open PySem PySem.Spec PyProof.Rows PySem.F
variable{prog:Program}{w:World}{A:Around}{E:Value->Shared->Prop}{s:Shared}
theorem Fv{it t:Addr}{D:k4}(Z:t≠it):∀(n i:Nat) (s:Shared) (Q:h7->Shared->Prop),s.heap.IsListIter it t i->s.heap.IsList t D->i+n<=D.size ->
  (∀h',h'.IsListIter it t (i+n)->Heap.SameBut it s.heap h'->Q ((D.toList.drop i).take n) { s with heap:=h' })->wpAny (model prog w) A (draw (.ref it) n) Q E s
 |0,i,s,Q,hit,_,_,hQ=>by
   exact dg (by simpa using hQ s.heap hit (Heap.SameBut.refl ..))
 |n+1,i,s,Q,hit,ht,hle,hQ=>by
   have a:i<D.size:=by lia
   refine ax (qw hit ht (x:=D[i]) (by simp[a]) λh₁ U I=>?_);refine ax (gk (Fv Z n (i+1) _ _ U (ht.extBut I.extBut Z) ∅ λb V Y=>dg ?_));have hd:D.toList.drop i=D[i]::D.toList.drop (i+1):=by simp[ij,a]
   have:=hQ b (by rw[show i+(n+1)=i+1+n by lia];exact V) (I.trans Y);rw[hd,List.take_succ_cons] at this;exact this
variable{pos:Pos}
theorem M6{env:Env}{I:i0}{x1}{t:Addr}{D:k4}{Q:Unit->Shared->Prop}(j:A.handled=none)(c:s.heap.IsList t D)(k:(assignEach I env).length=D.size)(Y:(assignEach I env).findIdx? (·.1)=none)(h:∀h',Heap.ExtBut s.heap.objs.size s.heap h'->wpAny (model prog w) A (assignInOrder ((assignEach I env).map (·.2)) D.toList) Q E { s with heap:=h' }):wpAny (model prog w) A (assign (.Tuple I x1 pos) env (.ref t)) Q E s:=by
 refine ax (ph ?_);unfold unpack;rw[k,Y];refine ax (gk ?_);have d:t≠s.heap.objs.size:=by obtain⟨o,l,_⟩:=c;exact cf (bz l)
 refine ax ?_;refine ax (wpAny_specialOf c.typeIs PySem.slot_list_iter.lookup ?_);refine dg ?_;refine ax (gk (lw c ?_));refine ax (gk (Fv d D.size 0 _ _ ⟨_,db _ rfl,rfl,rfl⟩ (c.push _) ∅ λh₁ V U=>?_));have f:List.take D.size (List.drop 0 D.toList)=D.toList:=by
  rw[List.drop_zero];exact i6 ⋯
 rw[f];rw[b7 ⋯];have Z:h₁.IsList t D:=(c.push _).extBut U.extBut d;refine ax (gk (tf j V Z ⋯ λg a=>?_));exact dg (h g λb o i e=>a b o i (U.extBut b o i (au _ e)))
def oD(r:Nat):ic->k9->Nat->DE0->Option DE0
 | [],[],_,e=>↑e |i::ix,.d d::ps,n,e=>oD r ix ps n (e.set i ⇑d)
 |i::ix,.o _::ps,n,e=>oD r ix ps (n+1) (e.set i ↑(.al r n))
 |_,_,_,_=>none
def zy(i:Nat)(ix:ic):FS:=λe=>match e[i]? with
 |some ↑(.ag .ls ↑r ps)=>if i∈ix then none else(oD r ix ps 0 e).map λe'=>(.nx,e')
 |_=>none
variable{G:Gd}{H0:Hp}{ix:ic}
theorem A6{K:kf}{W:Addr->Prop}{H:Hp}{r:Nat}{p:Addr}{D:ia}(U:G.r r=p::D):∀(ix:ic) (ps:k9) (n:Nat) (as:ia) (us:k6) (env env':DE0) (σ:St) (Q:St->Hp->Prop),Ok K G H0 W env σ H->aW K G W H ps as us->(∀(m:Nat) (a:Addr),as[m]?=↑a->D[n+m]?=↑a) ->
  oD r ix ps n env=↑env'->(∀I,Ok K G H0 W env' I H->Q I H)->jD ix us σ H Q
 | [],[],_,_,_,_,_,σ,Q,ok,.nil,_,e,k=>by cases e;exact⟨rfl,k σ ok⟩
 |i::ix,.d d::ps,n,as,_,env,env',σ,Q,ok,.d (v:=v) (us:=us) q t,ha,e,k =>
   ⟨v,us,rfl,A6 U ix ps n as us _ env' _ Q (ok.put (s:=.sh d) (v:=v) q λ_ _ _ _ _ _ o=>o.elim) t ha e k⟩
 |i::ix,.o ds::ps,n,_,_,env,env',σ,Q,ok,.o (a:=a) (as:=as) (us:=us) hW hl q t,ha,e,k =>
   ⟨.ref a,us,rfl,A6 U ix ps (n+1) as us _ env' _ Q (ok.put (s:=.al r n) (v:=.ref a) ⟨p,D,a,U,by simpa using ha 0 a rfl,rfl⟩ λ_ _ _ _ _ _ o=>o.elim) t (λm b Y=>by have:=ha (m+1) b (by simpa using Y);rwa [show n+1+m=n+(m+1) by lia]) e k⟩
variable{X:Cx}{es:i0}{x:Str}{p' p1:Pos}{i:Nat}
def M7{Nn Cn:h6}{k:Nat}(h:jP X es (jD ix))(an:bR Nn Cn X)(V:‹Nn[i]?=↑x›)(l:‹X.calm=true›)(t:‹(assignEach es X.env).length=ix.length›)(Y:‹(assignEach es X.env).findIdx? (·.1)=none›)(w:‹swapsWithSole [.Tuple es k p1] (.Name x p') pos.line X.env=pure false›)(U:‹swappedStores [.Tuple es k p1] (.Name x p') X.env=pure none›)(h1:‹(assignEach [.Tuple es k p1] X.env).map (·.2)=[assign (.Tuple es k p1) X.env]›):eZ X G H0 (.Assign [.Tuple es k p1] (.Name x p') pos) (zy i ix):=⟨by
 have pg:PG X (.Tuple es k p1) (λv σ H Q=>∃a xs,v=.ref a/\H a=↑(.lst xs)/\xs.length=ix.length/\jD ix xs σ H Q):=by
  intro pins s σ H v u Q I r U;obtain⟨a,xs,D,Z,c,U⟩:=U;subst D;cases r;obtain⟨its,g,y,J⟩:=I.list (.inl (.inl Z));refine M6 (I.ok.hd l) y.isList (by simp[t,<-c,g.length]) Y λh' z=>?_;have A:Inv X pins σ H { s with heap:=h' }:=I.kept (t':=s.toks) λb o e=>z b o (cf (bz e)) e;exact h pins _ σ H xs _ Q A (by simpa using g) U
 refine(pJ ((an.a V).pe) pg w U h1).imp λDn σ H B=>?_;obtain⟨W,env,fl,env',ok,q,kk⟩:=B;unfold zy at q;split at q;case h_2=>cases q
 rename_i r ps Z;split at q;case isTrue=>cases q
 cases D:oD r ix ps 0 env with
 |none=>rw[D] at q;cases q
 |some e' =>
   rw[D] at q;cases q;obtain⟨v,C,p,as,us,rfl,K,nd,E,F,j⟩:=ok.slot i _ Z;have c:∀(ix:ic) (ps:k9) (n:Nat) (env e':DE0),oD r ix ps n env=↑e'->ix.length=ps.length:=λix=>by
    induction ix with
    |nil=>intro ps n env e' e;cases ps with |nil=>rfl |cons p _=>cases p <;> cases e
    |cons i ix ih =>
      intro ps n env e' e;cases ps with
      |nil=>cases e
      |cons p ps=>cases p <;> exact congrArg Nat.succ (ih ps _ _ _ e)
   exact⟨_,C,p,us,rfl,F,by rw[<-j.length];exact(c _ _ _ _ _ D).symm,A6 (E r rfl) ix ps 0 as us env _ σ _ ok j (λm a L=>by rwa [lh]) D λd f=>kk W d H Step.refl f⟩⟩
end L2
namespace L2
open PySem PySem.Spec PyProof.Rows
def hF:D->D->k8 | .int i,.int j=>if i=10/\0<=j/\j<=30 then ↑↥(i ^ j.toNat) else none |_,_=>none
variable{X:Cx}{G:Gd}{H0:Hp}
theorem M8:gJ X G H0 (rI lO λi j=>.int (i ^ j.toNat)) hF:=kS λI U d h=>by
 unfold hF at h;split at h
 ·rename_i i j
  split at h;case isFalse=>cases h
  rename_i D;cases h;obtain⟨rfl,V,h1⟩:=D;exact⟨10,j,rfl,rfl,by unfold lO;lia,rfl⟩
 ·cases h
variable{f:Addr}{g:FS}{pos:Pos}
def rl{a b:Expr}{f g:FE}(D:aT X G H0 a f)(I:aT X G H0 b g):aT X G H0 (.BinOp a .Pow b pos) (aD hF f g):=nJ Ja M8 D I
def jF(N:h6)(sc:Scope):h6:=N.filter λu=>sc.names.lookup u==some .cell
def iX(N ps:h6)(sc:Scope):Bool:=decide (sc.kind=.function) && !sc.isCoroutine && !sc.isGenerator && decide N.Nodup && decide (N.take ps.length=ps) && decide (∀y∈sc.names,y.2≠.free) && N.all λx=>iW x && (sc.names.lookup x==some .local || sc.names.lookup x==some .cell)
variable{N ps:h6}{sc:Scope}
def uq(h:iX N ps sc=true):we N ps sc/\∀x∈N,Loc sc x/\(x==("__debug__" : Str))=false/\(x==("__classdict__" : Str))=false:=by
 unfold iX at h;simp only[fo,jf,m8,ie] at h;obtain⟨⟨⟨⟨⟨⟨h1,h2⟩,V⟩,Y⟩,I⟩,Z⟩,c⟩:=h;have U:∀x∈N,Loc sc x/\(x==("__debug__" : Str))=false/\(x==("__classdict__" : Str))=false:=λx D=>by
  obtain⟨a,b⟩:=c x D;have a:=wb a;rcases Bool.or_eq_true _ _ ▸ b with b |b
  ·exact⟨.inl (tx b),a⟩
  ·exact⟨.inr (tx b),a⟩
 exact⟨⟨h1,h2,V,Y,I,λx D=>(U x (by rw[<-I] at D;exact List.mem_of_mem_take D)).1,Z⟩,U⟩
variable{P:Program}{w:World}{K:kf}{mg:Str->h8}{base:Heap}{CX:iP}{qual:Str}{cdv:Value}{A:Around}{outer:ip}{s:Shared}{H:Hp}{E:XK}
def wx(h:iX N ps sc=true):bR N (jF N sc) (cI CX P w K mg base N qual sc f cdv A outer s H E) :=
 ⟨rfl,λi x e=>let z:=(uq h).2 x (bc e);⟨e,z.1.elim .inl λq=>.inr (.inl q),z.2.1,z.2.2⟩,λu D=>by
  obtain⟨_,h2⟩:=jc.mp D;exact .inl (tx h2)⟩
def ww(h:iX N ps sc=true):eN N (cI CX P w K mg base N qual sc f cdv A outer s H E) :=
 ⟨λi x e=>⟨(uq h).1.nd,e,((uq h).2 x (bc e)).1,.inl rfl⟩⟩
variable{i:Nat}{x:Str}
def eN.pg(t:eN N X)(h:‹N[i]?=↑x›):PG X (.Name x pos) (p8 i):=xU (t.t h).nd (t.t h).n (t.t h).l (t.t h).f
variable{e:Expr}{p':Pos}{F:FA}
def eN.psF(t:eN N X)(D:gI X G H0 e F)(h:‹N[i]?=↑x›)(I:‹swapsWith e ↑(.Name x p') pos.line X.env=pure false›):PS X (.Assign [.Name x p'] e pos) (fI (iA X.K G H0 F) (p8 i)):=xW (t.t h).nd (t.t h).n (t.t h).l D.out I (t.t h).f
variable{P:h7->Prop}
def M9(h:P [])(us:h7)(e:us.length=0):P us:=jx e ▸ h
variable{n:Nat}
def ry(h:∀a,∀us:h7,us.length=n->P (a::us))(us:h7)(e:us.length=n+1):P us:=by
 cases us with
 |nil=>cases e
 |cons a us=>exact h a us (oh e)
def us1(h:∀a,P [a]):∀us,us.length=1->P us:=ry λa=>M9 (h a)
def us2(h:∀a b,P [a,b]):∀us,us.length=2->P us:=ry λa=>us1 (P:=λus=>P (a::us)) (h a)
def us3(h:∀a b c,P [a,b,c]):∀us,us.length=3->P us:=ry λa=>us2 (P:=λus=>P (a::us)) (h a)
def us4(h:∀a b c d,P [a,b,c,d]):∀us,us.length=4->P us:=ry λa=>us3 (P:=λus=>P (a::us)) (h a)
def us5(h:∀a b c d e,P [a,b,c,d,e]):∀us,us.length=5->P us:=ry λa=>us4 (P:=λus=>P (a::us)) (h a)
def bU(K:kf)(mg:Str->h8)(st:Stmt)(x:Str)(ps:h6):Prop:=∃f fd,h_ K x x st f fd/\Binds K fd ps []/\mg x=↑(.ref f)
def iG(K:kf)(C:Addr)(st:Stmt)(x qual:Str)(ps:h6):Prop:=∃f fd,h_ K x qual st f fd/\Binds K fd ps []/\jR K C x f
variable{P:Program}{st:Stmt}{k ar:Nat}
theorem j8(T:bU K mg st x ps)(N:h6)(D:∀ {f:Addr} {cdv:Value} {A:Around} {outer:ip} {s:Shared} {H:Hp} {E:XK} {G:Gd} {H0:Hp},bC k (A.deeper (envOfC x (i9 st) s.heap.objs.size f cdv)) ->
   bR N (jF N (i9 st)) (cI bQ P w K mg base N x (i9 st) f cdv A outer s H E).nox->eN N (cI bQ P w K mg base N x (i9 st) f cdv A outer s H E).nox->gE (cI bQ P w K mg base N x (i9 st) f cdv A outer s H E).nox G H0 (pf st) g)(h:iX N ps (i9 st)=true:=by decide +kernel)(I:iW x=true:=by decide +kernel)(U:‹n=N.length›)(V:‹ar=ps.length›):bO P w K mg base bQ x (k+1) (cH K (aR n ar g)):=by
 obtain⟨f,fd,F,b,m⟩:=T;exact⟨f,fd,ps,qG F (uq h).1 U V λcdv A outer s H E G H0 Y=>D Y (wx h).nox (ww h).nox,m,F.kp,b,(wb I).1⟩
theorem A7(T:bU K mg st x ps)(N:h6)(D:∀ {f:Addr} {cdv:Value} {A:Around} {outer:ip} {s:Shared} {H:Hp} {E:XK} {G:Gd} {H0:Hp},bC k (A.deeper (envOfC x (i9 st) s.heap.objs.size f cdv)) ->
   bR N (jF N (i9 st)) (cI bQ P w K mg base N x (i9 st) f cdv A outer s H E).nox->eN N (cI bQ P w K mg base N x (i9 st) f cdv A outer s H E).nox->gE (cI bQ P w K mg base N x (i9 st) f cdv A outer s H E).nox G H0 (pf st) g)(h:iX N ps (i9 st)=true:=by decide +kernel)(I:iW x=true:=by decide +kernel)(U:‹n=N.length›)(V:‹ar=ps.length›):bO P w K mg base bQ x (k+1) (lH K (hB n ar g)):=by
 obtain⟨f,fd,F,b,m⟩:=T;exact⟨f,fd,ps,zY F (uq h).1 U V λcdv A outer s H E G H0 Y=>D Y (wx h).nox (ww h).nox,m,F.kp,b,(wb I).1⟩
abbrev Bd(P:Program)(w:World)(K:kf)(mg:Str->h8)(base:Heap)(N:h6)(qual:Str)(st:Stmt)(k:Nat)(g:FS):Prop:=∀ {f:Addr} {cdv:Value} {A:Around} {outer:ip} {s:Shared} {H:Hp} {E:XK} {G:Gd} {H0:Hp},bC k (A.deeper (envOfC qual (i9 st) s.heap.objs.size f cdv)) ->
   bR N (jF N (i9 st)) (cI (dX P w) P w K mg base N qual (i9 st) f cdv A outer s H E)->eN N (cI (dX P w) P w K mg base N qual (i9 st) f cdv A outer s H E)->gE (cI (dX P w) P w K mg base N qual (i9 st) f cdv A outer s H E) G H0 (pf st) g
theorem bU.cal{sp:Sp}(T:bU K mg st x ps)(D:iW x=true)(h:∀f fd,h_ K x x st f fd->cK P w K mg base CX k f fd ps sp):bO P w K mg base CX x k sp:=by
 obtain⟨f,fd,F,b,m⟩:=T;exact⟨f,fd,ps,h f fd F,m,F.kp,b,(wb D).1⟩
variable{p:Nat}
def xt(T:bU K mg st x ps)(N:h6)(D:Bd P w K mg base N x st k g)(h:iX N ps (i9 st)=true:=by decide +kernel)(I:iW x=true:=by decide +kernel)(U:‹n=N.length›)(V:‹p+ar=ps.length›):bO P w K mg base (dX P w) x (k+1) (f_ K (cB n p ar g) (xQ n p ar g)) :=
 T.cal I λf fd F=>Fa F (uq h).1 U V λcdv A outer s H E G H0 Y=>D Y (wx h) (ww h)
def A8(T:bU K mg st x ps)(N:h6)(D:Bd P w K mg base N x st k g)(h:iX N ps (i9 st)=true:=by decide +kernel)(I:iW x=true:=by decide +kernel)(U:‹n=N.length›)(V:‹p+ar=ps.length›):bO P w K mg base (dX P w) x (k+1) (gG K (dB n p ar g) (xL n p ar g)) :=
 T.cal I λf fd F=>Aw F (uq h).1 U V λcdv A outer s H E G H0 Y=>D Y (wx h) (ww h)
def MA(T:bU K mg st x ps)(N:h6)(D:Bd P w K mg base N x st k g)(h:iX N ps (i9 st)=true:=by decide +kernel)(I:iW x=true:=by decide +kernel)(U:‹n=N.length›)(V:‹ar=ps.length›):bO P w K mg base (dX P w) x (k+1) (uO K (jE n ar g) (xG n ar g)) :=
 T.cal I λf fd F=>Mu F (uq h).1 U V λcdv A outer s H E G H0 Y=>D Y (wx h) (ww h)
variable{C:Addr}{cn:Str}
def oE(D:Cl K cn C)(c:iO K C)(T:iG K C st x qual ps)(N:h6)(I:Bd P w K mg base N qual st k g)(h:iX N ps (i9 st)=true:=by decide +kernel)(U:‹n=N.length›)(V:‹p+ar=ps.length›):dR P w K mg base cn x (k+1) (f_ K (cB n p ar g) (xQ n p ar g)):=by
 obtain⟨f,fd,F,b,m⟩:=T;exact⟨C,f,fd,ps,c,m,Fa F (uq h).1 U V λcdv A outer s H E G H0 Y=>I Y (wx h) (ww h),b,D⟩
def oF(D:Cl K cn C)(c:iO K C)(T:iG K C st x qual ps)(N:h6)(I:Bd P w K mg base N qual st k g)(h:iX N ps (i9 st)=true:=by decide +kernel)(U:‹n=N.length›)(V:‹p+ar=ps.length›):dR P w K mg base cn x (k+1) (gG K (dB n p ar g) (xL n p ar g)):=by
 obtain⟨f,fd,F,b,m⟩:=T;exact⟨C,f,fd,ps,c,m,Aw F (uq h).1 U V λcdv A outer s H E G H0 Y=>I Y (wx h) (ww h),b,D⟩
def MB(D:Cl K cn C)(I:mg cn=↑(.ref C))(U:PySem.W.makesIn K C=true)(kp:PySem.W.keepIn K (.ref C)=true)(T:iG K C st "__init__" qual ps)(N:h6)(V:Bd P w K mg base N qual st k g)(h:iX N ps (i9 st)=true:=by decide +kernel)(Y:iW cn=true:=by decide +kernel)(Z:‹n=N.length›)(a:‹p+ar=ps.length›) :
  mO P w K mg base cn (k+1) (gG K (dB n p ar g) (xL n p ar g)):=by
 obtain⟨f,fd,F,b,m⟩:=T;exact⟨C,f,fd,ps,⟨U,m.at_,m.fn,kp⟩,Aw F (uq h).1 Z a λcdv A outer s H E G H0 c=>V c (wx h) (ww h),I,b,D,(wb Y).1⟩
def MC(N:h6)(D:∀ {f:Addr} {cdv:Value} {A:Around} {outer:ip} {s:Shared} {H:Hp} {E:XK} {G:Gd} {H0:Hp},bC k (A.deeper (envOfC x (i9 st) s.heap.objs.size f cdv)) ->
   bR N (jF N (i9 st)) (cI bQ P w K mg base N x (i9 st) f cdv A outer s H E).nox->eN N (cI bQ P w K mg base N x (i9 st) f cdv A outer s H E).nox->gE (cI bQ P w K mg base N x (i9 st) f cdv A outer s H E).nox G H0 (pf st) g)(h:iX N ps (i9 st)=true:=by decide +kernel)(I:‹n=N.length›)(U:‹ar=ps.length›):∀f fd,h_ K x x st f fd->cK P w K mg base bQ (k+1) f fd ps (cH K (aR n ar g)) :=
 λf fd F=>qG F (uq h).1 I U λcdv A outer s H E G H0 V=>D V (wx h).nox (ww h).nox
variable{h:Heap}{oc:Value}{od an:Option Addr}{osl:Array h8}
def law_mk{V:Addr}{s:Str}{m:k7->k8}{kV I Y cdv ct:Value}(X:K.In h)(G:h.Ns mainGlobals mg)(U:mg x=↑(.ref V))(a:PySem.W.nsIn K mainGlobals x=↑↑(.ref f))(l:K.lookup f=↑⟨oc,od,.func (PySem.W.fnOf x x (ya st) (pf st) (i9 st) .none kV I Y an cdv ct),osl⟩)(c:PySem.W.codeIn K cdv x=true)(k':PySem.W.keepIn K (.ref f)=true)(b:∀v:Value,bindArgs (PySem.W.fnOf x x (ya st) (pf st) (i9 st) .none kV I Y an cdv ct) ⟨[v],[]⟩=pure [(s,v)])(F:∀base f fd,h_ K x x st f fd->cK P w K mg base bQ k f fd [s] (cH K m))(good:∀Z:ik,Z.length<=63->m [.lst (Z.map D.int)]=↑(.bl true)) :
  ∃fd:FuncData,(∀(t:Shared) (v:Value),BindsTo t fd ⟨[v],[]⟩ [(s,v)])/\∀base:Heap,K.In base->base.Ns mainGlobals mg->cK P w K mg base bQ k V fd [s] (tW K):=by
 have e:=U.symm.trans (ng X G a);cases e;exact⟨_,λt v=>.of_eq (b v),λbase _ _=>KS (F base _ _ (yQ l c k')) good⟩
def walkD{l:PySem.W.OpenLaw}{q:Program}{D:h6}{Y:(Str->h8)->Heap->Prop}{U:World->Heap->Prop}{d:DefRec}{K:Params->kf}{s:Str}(Z:bC k callerA)(b:l.most=↑63)(I:d.params.defaults=[])(c:∀(w:World) (h:Heap),U w h->(K w.params).In h)(F:∀(w:World) (mg:Str->h8) (V:Addr) (h:Heap),(K w.params).In h->h.Ns mainGlobals mg->mg d.name=↑(.ref V) ->
   ∃fd:FuncData,(∀(t:Shared) (u:Value),BindsTo t fd ⟨[u],[]⟩ [(s,u)])/\∀base:Heap,(K w.params).In base->base.Ns mainGlobals mg->cK l.prog w (K w.params) mg base bQ k V fd [s] (tW (K w.params))) :
  PySem.W.WalkO q D Y U l.row.toRowW d [] (λf vs=>PySem.call f vs) :=
 Ka (n:=63) (k:=k) (x:=s) (CX:=λ_=>bQ) (sp:=λw=>tW (K w.params)) b (by decide) I Z c F (λ_ _ a e g _ i=>⟨a,e,rfl,i,g,λ_=>rfl⟩) λ_ _ _ _ _ z=>z
def def_mk{kV D I cdv ct:Value}(X:K.In h)(G:h.Ns mainGlobals mg)(a:PySem.W.nsIn K mainGlobals x=↑↑(.ref f))(l:K.lookup f=↑⟨oc,od,.func (PySem.W.fnOf x x (ya st) (pf st) (i9 st) .none kV D I an cdv ct),osl⟩)(c:PySem.W.codeIn K cdv x=true)(k:PySem.W.keepIn K (.ref f)=true)(U:∀us:h7,us.length=ps.length->bindArgs (PySem.W.fnOf x x (ya st) (pf st) (i9 st) .none kV D I an cdv ct) ⟨us,[]⟩=pure (ps.zip us)):bU K mg st x ps :=
 ⟨f,_,yQ l c k,.all U,ng X G a⟩
def exc_mk{c:Str}(X:K.In h)(G:h.Ns mainGlobals mg)(a:PySem.W.nsIn K mainGlobals c=↑↑(.ref C))(b:PySem.W.excIn K C A3 "ValueError.__new__" = true)(d:iW c=true):jL K mg c:=⟨C,a,b,ng X G a,(wb d).1⟩
def con_mk{z:Int}{t:Tok}(X:K.In h)(G:h.Ns mainGlobals mg)(a:PySem.W.nsIn K mainGlobals x=↑↑(.int z t)):∃t,mg x=↑(.int z t):=⟨t,ng X G a⟩
def mef_mk{kV D I cdv ct:Value}(a:PySem.W.findIn K (.ref C) x=↑↑(.ref f))(l:K.lookup f=↑⟨oc,od,.func (PySem.W.fnOf x qual (ya st) (pf st) (i9 st) .none kV D I an cdv ct),osl⟩)(c:PySem.W.codeIn K cdv qual=true)(k:PySem.W.keepIn K (.ref f)=true)(i:PySem.W.isFn K (.ref f)=true)(U:∀us:h7,us.length=ps.length->bindArgs (PySem.W.fnOf x qual (ya st) (pf st) (i9 st) .none kV D I an cdv ct) ⟨us,[]⟩=pure (ps.zip us)):iG K C st x qual ps :=
 ⟨f,_,yQ l c k,.all U,a,i,k⟩
def mV(o:Obj)(C:Addr):Prop:=∃vs,o.cls=.ref C/\o.data=.fields vs/\vs[2]?=some .none
def MD:entryFor table "proto.unchain" = ↑Builtin.«proto.unchain»:=entryFor_of_fast (by kernel_rfl)
variable{E:Value->Shared->Prop}{oc:Obj}{prog:Program}
def ME{α:Type}{x c:Addr}{ox:Obj}{D:k4}{Q:α->Shared->Prop}(U:A.handled=↑(.ref c))(V:s.heap.get? c=↑oc)(Y:mV oc C)(I:s.heap.get? x=↑ox)(hd:ox.data=.fields D)(h2:2<D.size)(Z:c≠x)(h:E (.ref x) { s with heap:=s.heap.update x (Obj.mapFields (·.setIfInBounds 2 (.ref c))) }):wpAny (model prog w) A (raiseNew (.ref x):Sem α) Q E s:=by
 refine ax (wpAny_handled ?_);rw[U];dsimp only;rw[aq (by simp[Z])];obtain⟨d,e,a,b⟩:=Y;refine ax (gk (wpAny_runValue (rg MD ?_)));refine ax (lq V a b ?_);refine ax (dg (dg ?_));refine ax ?_;refine ax (wpAny_load I ?_);rw[hd];dsimp only;rw[aq h2];exact wpAny_update I (wpAny_throw h)
theorem MF{it:Addr}{x left step:Int}{c:Addr}{Q:h8->Shared->Prop}(V:A.handled=↑(.ref c))(U:s.heap.get? c=↑oc)(Y:mV oc C)(D:IsRangeIter s.heap it x left step)(I:left<=0)(Z:∀h',Heap.ExtBut it s.heap h'->Q none { s with heap:=h' }):wpAny (model prog w) A (pyNext (.ref it)) Q E s:=by
 have hT:s.TypeIs (.ref it) "range_iterator":=⟨_,D,rfl⟩;refine ax (wpAny_attempt (wpAny_callSpecial?_slot (name:=Str.ofString "__next__") hT F.slot_range_iterator_next
  (wpAny_call_entry F.slot_range_iterator_next hT F.entry_range_iterator_next ?_ (F.args_range_iterator_next_1 _))))
 show wpAny _ _ (field (.ref it) 0 >>= _) _ _ s;refine ax (lq D rfl (x:=rawInt x) rfl ?_);show wpAny _ _ (field (.ref it) 1 >>= _) _ _ s;refine ax (lq D rfl (x:=rawInt left) rfl ?_);refine ax (lq D rfl (x:=rawInt step) rfl ?_);show wpAny _ _ (if left<=0 then _ else _) _ _ s;rw[aq I];refine ax (wpAny_rule ?_);refine ax ?_;refine ax ?_;refine ax (m:=firstArgMember _ _) (wpAny_of_eq (a:=Value.none) (by first |rfl | (simp only[firstArgMember];rfl)) ?_);refine ly ?_ (by size_fits);refine ME (show A.in1.handled=↑(.ref c) from V) (au _ (au _ U)) Y (db _ rfl) rfl (by simp;lia) (cf (by rw[j3];exact iz (bz U))) ?_;refine ax (wpAny_isInstance (T:="StopIteration") (b:=true) ⟨_,iw _ (db _ rfl) (by rfl),rfl⟩ isSubtype_stop ?_);refine dg (Z _ λb o d e=>?_);rw[dw _ _ (λz=>absurd (z ▸ bz e) (by rw[j3];exact Nat.not_lt.mpr (qe _)))];exact au _ (au _ e)
end L2
namespace L2
open PySem PySem.Spec PyProof.Rows PySem.W
structure iH (K:kf) (C:Addr):Prop where
 ga:PySem.W.findIn K (.ref C) "__getattribute__" = ↑↑(.builtin "BaseException.__getattribute__")
 hk:PySem.W.findIn K (.ref C) "__getattr__" = ↑none
 fd:PySem.W.findObj K C none "__class__" = ↑(.bind (.builtin "getset_descriptor.__get__") (.builtin "object.__class__"))
 ob:PySem.W.mroIn K C (.type "object")=↑true
 be:PySem.W.mroIn K C (.type "BaseException")=↑true
variable{K:kf}{w:World}{A:Around}{E:Value->Shared->Prop}{s:Shared}{x:Str}{C:Addr}{Q:Unit->Shared->Prop}
theorem MG{prog:Program}{x:Addr}{ox:Obj}{Q:h8->Shared->Prop}(c:iH K C)(X:K.In s.heap)(I:PySem.W.InstAt s.heap x ox C none)(h:Q ↑(.ref C) { s with toks:=s.toks+1 }):wpAny (model prog w) A (getAttr? (.ref x) "__class__") Q E s:=by
 obtain⟨D,g,d,t,os⟩:=s;have U:=I.type (M:=model prog w);have V:=looks_findIn (M:=model prog w) X c.ga;have Y:=looks_findIn (M:=model prog w) X c.hk;have Z:=looks_find (M:=model prog w) X I c.fd;have a:=looks_mroIn (M:=model prog w) X c.be;refine ax (wpAny_mkText (ax (wpAny_attempt (gk (ax (U.at (ax (V.at ?_))))))));refine ax (m:=hookBefore _) (Y.at ?_);refine ax (wpAny_attempt (gk ?_));refine ax (dg (nn ?_));refine mr F.excAttr_ValueError.ga.plain F.entry_bexc_ga ?_;have b:Looks (model prog w) D (isInstance (.ref x) (.type "BaseException")) true:=U.andThen a;refine ax (b.at ?_);repeat (first |wp_step |assumption)
 refine wpAny_loadPart_at I.at_ ?_;rw[I.cls];refine dg (ax (Z.at ?_));refine ax (gk (nn (class_get (s:=⟨D,g,d,t+1,os⟩) (ox:=ox) (od:=none) X I c.ob ?_)));exact dg (handed_on rfl (dg h))
def mW(o:Obj)(C:Addr):Prop:=mV o C/\o.dict=none
variable{h:Heap}{ea:Addr}{o:Obj}
def mW.inst(e:h.get? ea=↑o)(x:mW o C):PySem.W.InstAt h ea o C none:=by
 obtain⟨⟨vs,h1,h2,_⟩,D⟩:=x;exact⟨e,h1,by unfold notCls;rw[h2],by rw[D];trivial⟩
def MH(c:iH K C):KitX K (.ref ea) (.ref C) (λh=>∃ox,PySem.W.InstAt h ea ox C none):=by
 obtain⟨cd,D,_⟩:=di.mp c.fd;unfold clsIn at D;split at D;case h_2=>cases D
 rename_i b d' Y Z V;exact⟨λ_ _ _ ⟨_,I⟩=>I.type,λ_ _ X _ d f g s' k q=>by
   exact ax (wpAny_loadPart (k _ _ (X _ _ V)) (dg q)),
  λh a dd its n sl X U=>Bool.eq_false_iff.mpr λq=>by
   have e:C=a:=Value.ref.inj (mw.mp q);subst e;have z:=(X _ _ V).symm.trans U
   (injection z with z;injection z with _ _ z;cases z),
  λX ⟨_,I⟩ k=>MG c X I k⟩
structure Hd (ea C:Addr) (X:Cx):Prop where
 hh:X.A.handled=↑(.ref ea)
 ob:∃o,X.s₀.heap.get? ea=↑o/\mW o C
 h0:X.H₀ ea=none
 nf:ea∉X.fs
 nx:ea∉X.ex
variable{X:Cx}{pins:kv}{σ:St}{H:Hp}
def Hd.at(h:Hd ea C X)(I:Inv X pins σ H s):∃o,s.heap.get? ea=↑o/\mW o C/\H ea=none :=
 let ⟨o,e,c⟩:=h.ob;⟨o,I.base.keep ea o e h.h0 h.nf h.nx,c,I.base.free ea o e h.h0 h.nx⟩
def Hd.comp{N':h6}{sc:Scope}{cl:List (Str×Addr)}{D:Addr}{fp:ia}(h:Hd ea C X)(I:Inv X pins σ H s)(U:∀b∈fp,d_ X pins H b):Hd ea C (lr X x N' sc cl D s H fp):=by
 obtain⟨Y,V,_⟩:=h.ob;obtain⟨o,e,c,n⟩:=h.at I;have lt:=bz V;refine⟨h.hh,⟨o,e,c⟩,n,λz=>?_,λz=>?_⟩
 ·rcases cr.mp (I.stkSub ea z) with q |q
  ·exact absurd (b6 lt (q ▸ I.ok.above)) (ir _)
  ·exact h.nf q
 ·rcases(U ea z).2.2.2.1 with q |q
  ·exact h.nx q
  ·exact absurd (b6 lt q) (ir _)
variable{P:Program}
theorem MI{tg:Expr}(it:Addr)(lo:Int)(n:Nat):lM (Hd ea C) P w K tg (kO lo n) [it] it (λi h=>IsRangeIter h it (lo+(i:Nat)*1) ((n:Int)-(i:Nat)) 1) where
 mem:=by simp
 obj:=(pN (P:=P) (w:=w) (K:=K) (tg:=tg) it lo n).obj
 keep:=(pN (P:=P) (w:=w) (K:=K) (tg:=tg) it lo n).keep
 item:=by
  intro X hP m p a i pins s σ H E I Y st Z;obtain⟨d,f,q,g,j,k⟩:=Y it ⋯;have Z:i<n:=Z;refine wpAny_pyNext_range_item st ∅ λh' D l=>?_;have r:Inv X pins σ H { s with heap:=h',toks:=s.toks+1 }:=I.turned (λb o U e=>l.extBut b o U e) d f g j k;have t:lo+((i+1:Nat):Int)*1=lo+(i:Int)*1+1:=by lia
  have u:(n:Int)-((i+1:Nat):Int)=(n:Int)-(i:Int)-1:=by lia
  have V:IsRangeIter h' it (lo+((i+1:Nat):Int)*1) ((n:Int)-((i+1:Nat):Int)) 1:=by rw[t,u];exact D
  refine⟨_,rfl,sU (s:={ s with heap:=h',toks:=s.toks+1 }) (n:="range_iterator") V rfl rfl (by decide) ⟨.int (lo+i),H,r,⟨s.toks,?_⟩,⟨rfl,rfl⟩,V,λb U=>(Y b U).1⟩⟩;rw[Int.mul_one]
 done:=by
  intro X hP m p a i pins s σ H E I Y st Z;obtain⟨d,f,q,g,j,k⟩:=Y it ⋯;obtain⟨o,e,⟨c,_⟩,_⟩:=a.at I;exact MF a.hh e c st (by have:n<=i:=Z;lia) λh' v=>⟨rfl,I.turned (t':=s.toks) (λb o U e=>v b o U e) d f g j k⟩
 self:=(pN (P:=P) (w:=w) (K:=K) (tg:=tg) it lo n).self
variable{a e:Expr}
def dG(ea:Addr)(i:Nat)(b:Bool):FE:=λe=>match e[i]? with |some ⇑(.exc a)=>if a=ea then ↑(.bl b,e) else none |_=>none
variable{b:Expr}
def MJ(hd:Hd ea C X)(U:iH X.K C):t9 X (.builtin "isinstance") (λxs H Q=>∃v u b,xs=[.ref ea,v]/\RelV v u/\(∀D,RelV v D->D=u)/\PySem.W.kitOne X.K (.ref C) u=↑b/\Q (.bl b) H):=by
 intro pins s σ H xs us Q I r h;obtain⟨v,u,b,rfl,_,V,e,q⟩:=h;obtain⟨Y,D,rfl,Z,rt⟩:=sX r;cases (show Y=Value.ref ea from Z);cases V D rt;obtain⟨o,a,c,_⟩:=hd.at I;exact fz (MH U) I.kIn ⟨o,c.inst a⟩ e (λz=>nomatch z) λtk=>⟨.bl b,H,I.tok tk,rfl,q⟩
variable{b:Bool}{Nn Cn:h6}{i:Nat}{cn:Str}{G:Gd}{H0:Hp}{pos p' p1 p2:Pos}
def Fw{v:V}{u:Value}(hd:Hd ea C X)(f:iH X.K C)(h:PE X (.Name cn p2) (tC v))(j:RelV v u)(l:∀Z,RelV v Z->Z=u)(n:PySem.W.kitOne X.K (.ref C) u=↑b)(an:bR Nn Cn X)(c:Bn X "isinstance":=by walk_at "b")(D:‹Nn[i]?=↑x›)(e:‹starEach [.Name x p1,.Name cn p2] X.env=(false,eval (.Name x p1) X.env)::starEach [.Name cn p2] X.env›)(I:‹starEach [.Name cn p2] X.env=(false,eval (.Name cn p2) X.env)::starEach [] X.env›)(U:‹(backTo pos (starEach [.Name cn p2] X.env)).any (·.1)=false›) :
  aT X G H0 (.Call (.Name "isinstance" p') [.Name x p1,.Name cn p2] [] pos) (dG ea i b) :=
 ⟨(nG (MJ hd f) c.g c.m DW (qu ((an.a D).pe) (qu h uz I) e) (by decide) (by decide) e U).imp λσ H Q o=>by
  obtain⟨W,env,d,env',ok,q,k⟩:=o;unfold dG at q;split at q
  ·rename_i t p
   split at q;case isFalse=>cases q
   rename_i Y;subst Y;cases q;obtain⟨w,s,r⟩:=ok.slot i _ p;obtain rfl:=a_.exc_ r;exact⟨_,s,v,u,b,rfl,j,l,n,k W _ H Step.refl ok (.bl b)⟩
  ·cases q⟩
variable{g:FE}
def MK{R:Addr}(hd:Hd ea C X)(Y:iH X.K C)(Z:X.mg cn=↑(.ref R))(a:PySem.W.kitOne X.K (.ref C) (.ref R)=↑b)(an:bR Nn Cn X)(c:Gl X cn:=by walk_at "g")(D:(cn==("__debug__" : Str))=false:=by decide)(d:Bn X "isinstance":=by walk_at "b")(I:‹Nn[i]?=↑x›)(e:‹starEach [.Name x p1,.Name cn p2] X.env=(false,eval (.Name x p1) X.env)::starEach [.Name cn p2] X.env›)(U:‹starEach [.Name cn p2] X.env=(false,eval (.Name cn p2) X.env)::starEach [] X.env›)(V:‹(backTo pos (starEach [.Name cn p2] X.env)).any (·.1)=false›) :
  aT X G H0 (.Call (.Name "isinstance" p') [.Name x p1,.Name cn p2] [] pos) (dG ea i b):=Fw hd Y (CN (v:=.ref R) c Z rfl D) rfl (λ_ z=>z) a an d I e U V
def ML:bootBuiltins "ValueError" = ↑(.type "ValueError"):=by decide +kernel
def MM(hd:Hd ea C X)(Y:iH X.K C)(Z:PySem.W.kitOne X.K (.ref C) (.type "ValueError")=↑b)(an:bR Nn Cn X)(V:Bn X "ValueError":=by walk_at "b")(a:Bn X "isinstance":=by walk_at "b")(D:‹Nn[i]?=↑x›)(c:‹starEach [.Name x p1,.Name "ValueError" p2] X.env=(false,eval (.Name x p1) X.env)::starEach [.Name "ValueError" p2] X.env›)(I:‹starEach [.Name "ValueError" p2] X.env=(false,eval (.Name "ValueError" p2) X.env)::starEach [] X.env›)(U:‹(backTo pos (starEach [.Name "ValueError" p2] X.env)).any (·.1)=false›) :
  aT X G H0 (.Call (.Name "isinstance" p') [.Name x p1,.Name "ValueError" p2] [] pos) (dG ea i b):=Fw hd Y (CO (v:=.ty "ValueError") V.g V.m ML rfl) rfl (λ_ z=>z) Z an a D c I U
def jZ:k7->k8 | [.lst ds]=>↑(.tup ds) |_=>none
def MN:bootBuiltins "tuple" = ↑(.type "tuple"):=by decide +kernel
def MO:xw X G H0 (λxs H Q=>∃p ys,xs=[.ref p]/\((dI X.K H p ys/\∀l,H l=none->Q (.ref l) (aV H l (.tup ys)))\/(eX X.K H p ys/\Q (.ref p) H))) jZ:=by
 intro W env σ H vs ds d Q ok r e k;unfold jZ at e;split at e
 ·cases e
  obtain⟨v,rfl,D⟩:=vw r;obtain⟨a,us,rfl,h,r⟩:=D.lst_;refine⟨a,us,rfl,.inl ⟨h.sq,λl I=>?_⟩⟩;have sm:bB H (aV H l (.tup us)):=lU I;exact k _ _ (Step.same sm) (ok.same sm) (.tup m6 (ok.reps (Step.same sm) r))
 ·cases e
variable{b:Expr}{F:FA}
def MP(I:fG X G H0 [e] F)(D:Bn X "tuple":=by walk_at "b")(U:‹starEach [e] X.env=(false,eval e X.env)::starEach [] X.env›):aT X G H0 (.Call (.Name "tuple" p') [e] [] pos) (e7 jZ F):=zI JL MO D.g D.m MN I (by decide) (by decide) U rfl
abbrev Cx.hush(X:Cx)(A:Around)(p:kv):Cx:={ X with A:=A,calm:=false,pn:=p++X.pn }
variable{p:kv}
def Inv.hush(I:Inv X pins σ H s)(hA:A.frames=X.A.frames)(D:∀q∈p,s.heap.get? q.1=↑q.2/\H q.1=none/\q.1≠X.env.locals/\q.1∉X.fs/\∀v,q.2.data≠.cell v):Inv (X.hush A p) pins σ H s :=
 ⟨⟨I.ok.mod,I.ok.kind,I.ok.glob,I.ok.blt,I.ok.above,I.ok.inj,I.ok.has,I.ok.cab,(λz=>nomatch z),hA.trans I.ok.frames,I.ok.stk,I.ok.exf,I.ok.bs,I.ok.bsz,I.ok.noex,I.ok.exfs,I.ok.funs,I.ok.frf⟩,I.os,I.bare,I.base,I.loc,I.cell,I.free,I.freeC,λq hq=>by
  rw[cx] at hq;rcases dy.mp hq with hq |hq
  ·exact D q hq
  ·exact I.pin q hq,I.hok,I.len⟩
def Inv.unhush(ok:X.Ok)(J:Inv (X.hush A p) pins σ H s):Inv X pins σ H s :=
 ⟨ok,J.os,J.bare,J.base,J.loc,J.cell,J.free,J.freeC,λq D=>J.pin q (by rw[cx];exact cw _ D),J.hok,J.len⟩
structure Fx (P:Program) (w:World) (K:kf) (mg:Str->h8) (base:Heap) (k:Nat) (f:Addr) (fd:FuncData) (ps:h6) (kd:Str->k8):Prop where
 len:ps.length=1
 run:∀(A:Around) (outer:ip) (s:Shared) (H:Hp) (ea C:Addr) (c:Str) (o:Obj) (d:D) (O:Addr->Prop) (Q:VK) (args:Args),bC k { A with handled:=none }->A.handled=↑(.ref ea)->gX P w K mg base A outer s H->BindsTo s fd args (ps.zip [.ref ea]) ->
  s.heap.get? ea=↑o->mW o C->Cl K c C->H ea=none->ea∉fF outer->kd c=↑d->(∀v H',bB H H'->a_ K H' (λa=>O a\/H a=none) d v->Q v H')->codeAny (model P w) A (.call (.ref f) args) (CR bQ outer P w H s Q E0) s
abbrev lA(P:Program)(w:World)(K:kf)(mg:Str->h8)(base:Heap)(N:h6)(qual:Str)(scope:Scope)(f:Addr)(cdv:Value)(A:Around)(outer:ip)(s:Shared)(H:Hp):Cx :=
 ((cI bQ P w K mg base N qual scope f cdv { A with handled:=none } outer s H E0).nox).hush (A.deeper (envOfC qual scope s.heap.objs.size f cdv)) []
def mX(n:Nat)(g:Addr->Str->FS)(c:Str)(d:D):Prop:=∀ea,∃e',g ea c (lf n [.exc ea])=↑(.rt d,e')
variable{g:Addr->Str->FS}{st:Stmt}{N ps:h6}{k:Nat}{kd:Str->k8}{mg:Str->h8}{base:Heap}
theorem A9{qual:Str}{f:Addr}{fd:FuncData}{n:Nat}(F:h_ K x qual st f fd)(S:we N ps (i9 st))(R:n=N.length)(L:ps.length=1)(l:∀c d,kd c=↑d->mX n g c d)(Y:∀(cdv:Value) (A:Around) (outer:ip) (s:Shared) (H:Hp) (ea C:Addr) (c:Str) (G:Gd) (H0:Hp),(kd c).isSome=true->Cl K c C->Hd ea C (lA P w K mg base N qual (i9 st) f cdv A outer s H)->gE (lA P w K mg base N qual (i9 st) f cdv A outer s H) G H0 (pf st) (g ea c)) :
  Fx P w K mg base (k+1) f fd ps kd:=by
 subst R;refine⟨L,λA outer s H ea C c o d O Q args T X D hb ho hx hc hH m hd hQ=>?_⟩;obtain⟨oc,od,kV,aa,pm,an,cdv,ct,osl,rfl,lk,p⟩:=F.ex;have hl:[V.ref ea].length=ps.length:=L.symm;have M:K.In s.heap:=D.mod.kin.keeps λb o e=>(D.bs b o e).1;have r:s.heap.NoLimit:=D.mod.nolimit.keeps λb o e=>(D.bs b o e).1;have Z:∀y∈ps.zip [Value.ref ea],(i9 st).names.lookup y.1=some .local\/((i9 st).names.lookup y.1=some .cell/\((cellsFrom (s.heap.objs.size+1) (i9 st).names []).lookup y.1).isSome=true):=λ⟨n,v⟩ hy=>by
  rcases S.par n (kt hy).1 with q |q
  ·exact .inl q
  ·exact .inr ⟨q,og _ _ _ (.inl q)⟩
 refine codeAny_call_function (A:=A) T.depth (M _ _ lk) rfl S.co S.gen rfl (PySem.W.codeRec_of M p) (hb _ _ _ _ ?_);refine wpAny_newFunctionEnv_cells S.kind Z λenv he t x=>?_;subst he;refine⟨r.keeps x.toInCall.keep,codeAny_func ?_⟩;have e1:gX P w K mg base { A with handled:=none } outer s H:=⟨D.frames,D.mod,D.bs,D.bsz,D.funs,D.frf,D.hok,D.bare⟩;have I0:Inv (cI bQ P w K mg base N qual (i9 st) f cdv { A with handled:=none } outer s H E0) [] (start N [.ref ea]) H t:=Dw S rfl e1 hl (.cons rfl .nil) x;have I:Inv (lA P w K mg base N qual (i9 st) f cdv A outer s H) [] (start N [.ref ea]) H t:=(I0.wish _).hush rfl λq hq=>absurd hq ⋯;have hD:Hd ea C (lA P w K mg base N qual (i9 st) f cdv A outer s H):=⟨X,⟨o,ho,hx⟩,hH,m,by simp[cI]⟩;obtain⟨e',hg⟩:=l c d hd ea;have z:=(Y cdv A outer s H ea C c (gd λa=>O a\/H a=none) H (by rw[hd];rfl) hc hD).out [] t (start N [.ref ea]) H { nx:=λ_ H'=>Q .non H',rt:=Q } I
  ⟨dA,_,_,e',ze (K:=K) (O:=O) (.cons (.exc ea) .nil),hg,λW' U v H' st B rp=>hQ v H' B.stay (rp.mono (λ_ _ h=>h) λa us o h=>⟨o.1,h⟩)⟩
 refine jd z (λfl s' i=>?_) λe s' i=>False.elim i;have j:∀ {U:St} {H':Hp} {v:V} {u:Value},Inv (lA P w K mg base N qual (i9 st) f cdv A outer s H) [] U H' s'->RelV v u->Q v H'->CE outer P w H s Q u s' :=
  λ{U H' v u} J E q=>⟨v,H',J.os,J.bare,J.base,J.hok,E,q⟩
 cases fl with
 |ret u =>
   obtain⟨v,U,H',J,E,q⟩:=i;exact j J E q
 |next =>
   obtain⟨U,H',J,q⟩:=i;exact j (v:=V.non) (u:=Value.none) J rfl q
 |brk =>
   obtain⟨_,_,_,q⟩:=i;exact False.elim q
 |cont =>
   obtain⟨_,_,_,q⟩:=i;exact False.elim q
def uT(P:Program)(w:World)(K:kf)(mg:Str->h8)(base:Heap)(x:Str)(k:Nat)(kd:Str->k8):Prop :=
 ∃f fd ps,Fx P w K mg base k f fd ps kd/\mg x=↑(.ref f)/\PySem.W.keepIn K (.ref f)=true/\Binds K fd ps []/\(x==("__debug__" : Str))=false
def AA(ea:Addr)(c:Str)(kd:Str->k8)(i:Nat):FE:=λe=>match e[i]? with |some ⇑(.exc a)=>if a=ea then(kd c).map λd=>(d,e) else none |_=>none
variable{c:Str}
theorem MQ{y:Str}{p:Pos}(m:X.A.handled=↑(.ref ea))(n:(ea,o)∈X.pn)(t:mW o C)(B:Cl X.K c C)(E:uT X.prog X.w X.K X.mg X.base x k kd)(J:bC k { X.A with handled:=none })(an:bR Nn Cn X)(L:Gl X x)(Y:Nn[i]?=↑y)(j:starEach [.Name y p1] X.env=(false,eval (.Name y p1) X.env)::starEach [] X.env)(Z:(backTo pos (starEach [] X.env)).any (·.1)=false):aT X G H0 (.Call (.Name x p) [.Name y p1] [] pos) (AA ea c kd i):=⟨λpins s σ H Q I b=>by
 obtain⟨W,env,d,env',ok,q,k⟩:=b;obtain⟨f,fd,ps,F,M,N,O,g⟩:=E;unfold AA at q;split at q;case h_2=>cases q
 rename_i a P;split at q;case isFalse=>cases q
 rename_i R;subst R;cases e2:kd c with
 |none=>rw[e2] at q;cases q
 |some d' =>
   rw[e2] at q;cases q;obtain⟨v',S,T⟩:=ok.slot i _ P;obtain rfl:=a_.exc_ T;refine je (lK I L M ?_ g);refine kx (h₀:=X.base) I.ok.mod.kin N (bI ((qu (an.a Y).pe uz j) pos pins s σ H (λvs H1=>vs=[V.ref a]/\H1=H) I ⟨_,S,rfl,rfl⟩) λus l b=>?_) j Z;obtain⟨vs,H1,D,r,q1,q2⟩:=b;refine⟨D.kIn,?_⟩;subst q1 q2;obtain⟨u,rfl,hu⟩:=yx r;cases (show u=Value.ref a from hu);obtain⟨g1,g2,g3,g4,_⟩:=D.pin (a,o) (fq _ n);have hl:([Value.ref a]++[]).length=ps.length:=by rw[F.len];rfl
   have hz:=O l [Value.ref a] D.kIn hl;refine nn (j5 (F.run X.A X.stack l H1 a C c o _ (Ow G W) Q ⟨[.ref a],[]⟩ J m D.env0 hz g1 t B g2 (λz=>?_) e2 λv H2 sm r2=>?_) λr s' U=>?_)
   ·rcases cr.mp (D.stkSub a z) with z |z
    ·exact g3 z
    ·exact g4 z
   ·refine k W v H2 (Step.same sm) (ok.same sm) (r2.mono (λ_ _ h=>h) λa us o h=>⟨?_,h⟩)
    rcases o with o |o
    ·exact o
    ·exact⟨ok.good a (ok.stay.free o),λz=>by obtain⟨_,us,q⟩:=ok.wl a z;rw[o] at q;cases q⟩
   ·cases r with
    |error e=>exact False.elim U |ok fl =>
      cases fl with
      |ret u=>exact D.after U |next=>exact False.elim U |brk=>exact False.elim U |cont=>exact False.elim U⟩
variable{M:Model}
def MR(I:Inv X pins σ H s)(u:X.N.Nodup)(hi:X.N[i]?=↑x)(w:X.env.kindOf x=some .local)(h:∀s',Inv X pins (σ.set i none) H s'->Q () s'):wpAny M A (do bindName X.env x .none;unbindBehindTheSuite X.env x pos) Q E s:=by
 obtain⟨m,B,C⟩:=id I.loc;have V:(X.env.scope.kind==.class || (X.env.scope.kind==.module && X.env.locals != X.env.globals))=false:=by rw[I.ok.kind];rfl
 have Y:i<σ.length:=by rw[I.len];exact(aj.mp hi).1
 refine wpAny_nameGoes_keeps w B V λh' v f D=>?_;refine h _ ⟨I.ok,I.os,I.bare,⟨λb o e n g Z=>?_,λb o e n g Z=>?_,I.base.free,λb o e Z=>?_,I.base.tups,I.base.frzs,I.base.tbls⟩,⟨_,f,λj y F U a G=>?_⟩,λy c e=>?_,I.free,I.freeC,λp J=>?_,λb K e=>?_,by simpa using I.len⟩
 ·exact(D.2 b (cf (b6 (bz e) I.ok.above))).trans (I.base.keep b o e n g Z)
 ·obtain⟨sl,U⟩:=I.base.slot b o e n g Z
  exact⟨sl,(D.2 b (cf (b6 (bz e) I.ok.above))).trans U⟩
 ·obtain⟨o',U⟩:=I.base.there b o e Z
  exact⟨o',(D.2 b (cf (b6 (bz e) I.ok.above))).trans U⟩
 ·by_cases l:j=i
  ·subst l
   rw[fx Y] at a;cases a
  ·rw[d8 (Ne.symm l)] at a
   obtain⟨L,O,q⟩:=C j y F U a G;refine⟨L,O,?_⟩;rcases q with⟨k,e⟩ | ⟨k,c,e,z⟩
   ·refine .inl ⟨k,?_⟩
    have:y≠x:=λe=>l (xI u U (e ▸ hi));simp[this,e]
   ·exact .inr ⟨k,c,e,z.sameBut D (I.cne y c e)⟩
 ·obtain⟨r,z⟩:=I.cell y c e
  exact⟨r,z.sameBut D (I.cne y c e)⟩
 ·obtain⟨e,n,t,P,d⟩:=I.pin p J
  exact⟨(D.2 p.1 t).trans e,n,t,P,d⟩
 ·refine(I.hok b K e).stay (λc r hc q=>(D.2 c ?_).trans q) (λ_ q=>q) λ_ _ q=>q
  rintro rfl;rcases hc with hc |hc
  ·rw[<-hc,I.free] at e;cases e
  ·rw[I.free] at hc;cases hc
def bP.here{a:Addr}{o:HO}(x:bP P w H h a o):∃u,h.get? a=↑u:=by
 induction o with
 |lst xs=>obtain⟨_,_,_,_,e⟩:=x;exact⟨_,e⟩ |tup xs=>obtain⟨_,_,_,o,e,_⟩:=x;exact⟨_,e⟩ |dK kvs=>obtain⟨_,_,_,_,o,_,_,e,_⟩:=x;exact⟨_,e⟩ |dT kvs=>obtain⟨_,_,_,_,o,_,_,e,_⟩:=x;exact⟨_,e⟩ |set S n=>obtain⟨o,_,_,_,e,_⟩:=x;exact⟨_,e⟩ |ins C dx fs=>exact⟨_,x.2.2.2.1⟩ |own _=>exact x |xd fs=>obtain⟨_,⟨_,_,_,e,_⟩,_⟩:=x;exact⟨_,e⟩ |met f y=>exact⟨_,x⟩ |rng lo hi=>obtain⟨_,_,_,e⟩:=x;exact⟨_,e⟩ |frz o u _=>exact⟨_,x.1⟩ |tbl ps=>exact⟨_,x⟩ |ext φ=>exact x.2.1
variable{W:Addr->Prop}{env:DE0}
def Ok.unset(ok:Ok K G H0 W env σ H)(i:Nat):Ok K G H0 W (env.set i none) (σ.set i none) H:=by
 have gt:∀ {α:Type} {l:List (Option α)} {j:Nat} {a:α},(l.set i none)[j]?=↑↑a->i≠j/\l[j]?=↑↑a:=λ{α l j a} e=>by
  by_cases h:i=j
  ·subst h
   rw[jh] at e;simp at e
  ·rw[d8 h] at e
   exact⟨h,e⟩
 refine⟨ok.stay,ok.good,ok.wl,λj s e=>?_,λj I s s' v U a D V Y Z=>ok.uniq j I s s' v U a (gt D).2 (gt V).2 (gt Y).2 (gt Z).2,by rw[d9,d9];exact ok.len⟩;obtain⟨h,e⟩:=gt e;obtain⟨v,D,h1⟩:=ok.slot j s e;exact⟨v,by rw[d8 h];exact D,h1⟩
abbrev Cx.tr(X:Cx)(E:Value->Shared->Prop)(pp:kv):Cx:={ X with xe:=E,pn:=pp++X.pn }
def Inv.tr(I:Inv X pins σ H s):Inv (X.tr E pins) [] σ H s :=
 ⟨⟨I.ok.mod,I.ok.kind,I.ok.glob,I.ok.blt,I.ok.above,I.ok.inj,I.ok.has,I.ok.cab,I.ok.hd,I.ok.frames,I.ok.stk,I.ok.exf,I.ok.bs,I.ok.bsz,I.ok.noex,I.ok.exfs,I.ok.funs,I.ok.frf⟩,I.os,I.bare,I.base,I.loc,I.cell,I.free,I.freeC,λq D=>I.pin q (by
  rw[du] at D;exact dy.mpr (dy.mp D).symm),I.hok,I.len⟩
variable{pp:kv}
def Inv.untr(ok:X.Ok)(I:Inv (X.tr E pins) pp σ H s):Inv X pins σ H s :=
 ⟨ok,I.os,I.bare,I.base,I.loc,I.cell,I.free,I.freeC,λq D=>I.pin q (fq _ (dy.mpr (dy.mp D).symm)),I.hok,I.len⟩
variable{cs:h6}
def bR.tr(h:bR N cs X):bR N cs (X.tr E pp):=⟨h.n,λi x e=>let z:=h.get i x e;⟨z.n,z.v,z.d,z.c⟩,h.ck⟩
def eN.tr(h:eN N X):eN N (X.tr E pp):=⟨λi x e=>let z:=h.to i x e;⟨z.nd,z.n,z.l,z.f⟩⟩
def bR.hush(h:bR N cs X):bR N cs (X.hush A pp):=⟨h.n,λi x e=>let z:=h.get i x e;⟨z.n,z.v,z.d,z.c⟩,h.ck⟩
def eN.hush(h:eN N X):eN N (X.hush A pp):=⟨λi x e=>let z:=h.to i x e;⟨z.nd,z.n,z.l,z.f⟩⟩
def j_(u:FS)(i j:Nat)(kd:Str->k8):FS:=λe=>(u e).bind λr=>match r.1 with | .xc c=>(kd c).map λd=>(.nx,((r.2.set i none).set j ⇑d).set i none) |_=>↑r
def AB{α:Type}(l:List (Option α))(i j:Nat)(a b:Option α):((l.set i a).set j b).set i none=((l.set i none).set j b).set i none:=by
 by_cases h:i=j
 ·subst h;simp[List.set_set]
 ·rw[List.set_comm _ _ h,List.set_set,List.set_comm _ _ h,List.set_set]
variable{e:Addr}{H':Hp}{s':Shared}
def jC.obj(V:X.stack=X.env::X.outer)(Y:X.env.frame=↑X.env.locals)(f:jC X.prog X.w X.stack H s C e H' s'):∃o,s'.heap.get? e=↑o/\mW o C/\H' e=none/\e≠X.env.locals/\e∉X.fs/\∀v,o.data≠.cell v:=by
 obtain⟨B,x,d,Z,un,os,g⟩:=f;obtain⟨a,vs,T,h,ts,U,b,gd,I,i,c,_⟩:=x.tr;have D:e∉fF X.stack:=λz=>by
  obtain⟨_,j,y,n⟩:=x.fr.mem z;rw[U] at y;cases y;exact n vs I
 rw[V] at D;have D:e∉X.env.locals::X.fs:=by unfold fF at D;rw[me,Y] at D;exact D
 refine⟨a,U,⟨⟨vs,b,I,c⟩,gd⟩,?_,λz=>D (z ▸ bi),λz=>D (ay _ z),λv z=>by rw[I] at z;cases z⟩;cases q:H' e with
 |none=>rfl |some o =>
   obtain⟨u,z⟩:=(Z e o q).here;rw[x.new] at z;cases z
def jC.flight(I:Inv X pins σ H s)(f:jC X.prog X.w X.stack H s C e H' s')(h:∀h2,jC X.prog X.w X.stack H s C e H' { s' with heap:=h2 }->Q () { s' with heap:=h2 }):wpAny M A (setFlight (.ref e) none) Q E s':=by
 obtain⟨B,x,Y,a,un,os,c⟩:=f;refine zR x λh2 Z d g=>h h2 ⟨B,Z,Y,a,⟨λb o q n D _=>Z.stay b o (Y b o q n D),λb o q n D U=>?_,un.free,λb o q U=>?_,un.tups,un.frzs,un.tbls⟩,os,c⟩
 ·obtain⟨sl,z⟩:=un.slot b o q n D U
  obtain⟨_,k,y,i⟩:=I.stack.mem D;rw[q] at y;cases y;obtain⟨V,j⟩:=d b _ z i;exact⟨V,j⟩
 ·obtain⟨o',z⟩:=un.there b o q U
  exact g b o' z
def MS{body:List Stmt}{u:FS}{j jr:Nat}{R y z:Str}{RA:Addr}{S h O T p7:Pos}(hR:X.mg R=↑(.ref RA))(m:∀c C,(kd c).isSome=true->Cl X.K c C->PySem.W.exmOne X.K (.ref C) (.ref RA)=↑true)(kc:uT X.prog X.w X.K X.mg X.base x k kd)(rm:bC jr X.A)(an:bR Nn Cn X)(U:eN Nn X)(hb:∀E pp,bR Nn Cn (X.tr E pp)->eN Nn (X.tr E pp)->gE (X.tr E pp) G H0 body u)(B:k<=jr:=by decide)(aa:Gl X R:=by walk_at "g")(ab:Gl X x:=by walk_at "g")(hi:‹Nn[i]?=↑y›)(hj:‹Nn[j]?=↑z›)(hl:X.env.kindOf y=some .local:=by kernel_rfl)(hX:‹X.stack=X.env::X.outer›)(hf:‹X.env.frame=↑X.env.locals›)(ag:(R==("__debug__" : Str))=false:=by decide)(he:‹starEach [.Name y h] X.env=(false,eval (.Name y h) X.env)::starEach [] X.env›)(al:‹(backTo O (starEach [] X.env)).any (·.1)=false›)(ap:‹swapsWith (.Call (.Name x S) [.Name y h] [] O) ↑(.Name z p2) T.line X.env=pure false›) :
  eZ X G H0 (.Try body [.ExceptHandler ↑(.Name R p1) ↑y [.Assign [.Name z p2] (.Call (.Name x S) [.Name y h] [] O) T] p7] [] [] pos) (j_ u i j kd):=⟨λpins s σ H Dn I zq=>by
 obtain⟨W,env,fl,env',ok,q,k⟩:=zq;unfold j_ at q;cases e1:u env with
 |none=>rw[e1] at q;cases q
 |some r =>
   obtain⟨F,env1⟩:=r;rw[e1,ac] at q;refine wpAny_Try_except ?_;refine jd ((hb _ pins an.tr U.tr).out [] s σ H Dn I.tr ⟨W,env,F,env1,ok,e1,?_⟩) (λf s1 h1=>?_) (λe s1 h1=>h1)
   ·cases F with
    |xc c=>?_ |nx=>cases q;exact k
    |bk=>cases q;exact k
    |ct=>cases q;exact k
    |rt d=>cases q;exact k
    |rf d=>cases q;exact k
    |r2 d=>cases q;exact k
    |ra d d'=>cases q;exact k
    cases e2:kd c with
    |none=>simp only[e2,oy] at q;cases q
    |some d =>
      simp only[e2,ai] at q;cases q;intro W' D H' C hc st L ar e s' xs;refine xs.come hX hf λh2 s1 H1 I1 f=>?_;have J:Inv X pins D H' { s' with heap:=h2 }:=(f.inv I1).untr I.ok;obtain⟨o,P,g2,_⟩:=jC.obj (X:=X) hX hf f;refine wpAny_handleBy_cons (codeAny_handlers_test ?_) (λz=>nomatch z);refine lK (J.hush (A:=X.A.mark ↑(.ref e)) (p:=[]) rfl ⋯) aa hR ?_ ag;refine(exm_one (M:=model X.prog X.w) J.kIn (g2.inst P).type (m c C (by rw[e2];rfl) hc)).here ?_;refine codeAny_handlers_suite_as ?_;refine f.flight I1 λh3 f3=>?_;have J3:Inv X pins D H' { s' with heap:=h3 }:=(f3.inv I1).untr I.ok;obtain⟨N,P,g2,g3,g4,g5,g6⟩:=jC.obj (X:=X) hX hf f3;have a0:i<env1.length:=by
       rw[L.len,J3.len];exact(aj.mp (U.t hi).n).1
      refine xJ (X:=X.hush (X.A.mark ↑(.ref e)) []) (J3.hush rfl ⋯) (U.t hi).nd (U.t hi).n (U.t hi).l (v:=.ref e) rfl (λs4 I4 zq=>?_) (U.t hi).f;obtain⟨a,sb,ha⟩:=zq;have ge:s4.heap.get? e=↑N:=(sb.2 e λz=>by
       rcases ha with ha |ha
       ·exact g4 (z.trans ha)
       ·obtain⟨v,oc,h1,h2⟩:=J3.cell _ _ ha
        rw[<-z] at h1;cases P.symm.trans h1;exact g6 v h2).trans P
      have I5:Inv ((X.hush (X.A.mark ↑(.ref e)) [(e,N)]).nox) pins (D.set i ↑(.ref e)) H' s4:=((I4.unhush I.ok).hush (A:=X.A.mark ↑(.ref e)) (p:=[(e,N)]) rfl (λq hq=>by cases d6.mp hq;exact⟨ge,g3,g4,g5,g6⟩)).wish _;have hs:=(eh (gw (X:=(X.hush (X.A.mark ↑(.ref e)) [(e,N)]).nox) (G:=G) (H0:=H0) (pos:=T) (p':=p2) U.hush.nox (MQ (C:=C) (c:=c) (o:=N) (p:=S) (p1:=h) (pos:=O) rfl (fq _ bi) g2 hc kc ⟨rfl,(rm.mono B).dp,(rm.mono B).un⟩ an.hush.nox ab hi he al) hj ap)).out pins s4 _ H' { nx:=λV Q=>∃b,Step W' H' b Q/\Ok X.K G H0 b ((env1.set i ⇑(.exc e)).set j ⇑d) V Q,rt:=λ_ _=>False } I5 ⟨W',env1.set i ⇑(.exc e),.nx,_,L.set (.exc e),by
       unfold aI AA;rw[fx a0];dsimp only;rw[aq rfl,e2];rfl,λb V Q Y Z=>⟨b,Y,Z⟩⟩
      refine jd hs (λf5 s5 g=>?_) (λx s5 g=>False.elim g);cases f5 with
      |next =>
        obtain⟨V,Q,J5,b,Y,Z⟩:=g;refine MR (J5.unwish.unhush I.ok) (U.t hi).nd (U.t hi).n hl λs6 J7=>⟨_,_,J7,k b _ _ (st.trans Y) ?_⟩;rw[<-AB];exact Z.unset i
      |brk=>obtain⟨_,_,_,z⟩:=g;exact z.elim |cont=>obtain⟨_,_,_,z⟩:=g;exact z.elim |ret u=>obtain⟨_,_,_,_,_,z⟩:=g;exact z.elim
   ·cases f with
    |next =>
      obtain⟨D,H',J,q⟩:=h1;exact m4 ⟨D,H',J.untr I.ok,q⟩
    |brk=>obtain⟨D,H',J,q⟩:=h1;exact⟨D,H',J.untr I.ok,q⟩ |cont=>obtain⟨D,H',J,q⟩:=h1;exact⟨D,H',J.untr I.ok,q⟩ |ret u=>obtain⟨v,D,H',J,r,q⟩:=h1;exact⟨v,D,H',J.untr I.ok,r,q⟩⟩
def n9:h6:=["UnknownStack", "EmptyStack", "UnknownPlace", "BadHours", "BadLoss", "BadCount", "HouseFull", "DeedsFull", "NothingWaits", "NothingDone", "ShortOrder", "TooManyOrders", "NotGone"]
def ve:h6:=["unknown stack", "empty stack", "unknown place", "bad hours", "bad loss", "bad count", "house full", "deeds full", "nothing waits", "nothing done", "short order", "too many orders", "not gone"]
def oG(c:Str):ka:=(n9.zip ve).lookup c
def jN(c:Str):k8:=(oG c).map λw=>.tup [.str "refused",.str w]
def AC(K:kf)(C:Addr):Bool:=findIn K (.ref C) "__getattribute__"==↑↑(.builtin "BaseException.__getattribute__") && findIn K (.ref C) "__getattr__"==↑none && (match findObj K C none "__class__" with |some (.bind (.builtin g) (.builtin a))=>g=="getset_descriptor.__get__" && a=="object.__class__" |_=>false) && mroIn K C (.type "object")==↑true && mroIn K C (.type "BaseException")==↑true
def kA(K:kf)(n:Str)(p:Addr->Bool):Bool:=match nsIn K mainGlobals n with |some ↑(.ref R)=>p R |_=>false
def Fy(K:kf):Bool:=n9.all λc=>kA K c λC=>AC K C && kitOne K (.ref C) (.type "ValueError")==↑true && kA K "RotError" (λR=>exmOne K (.ref C) (.ref R)==↑true) && n9.all λn=>kA K n λR=>kitOne K (.ref C) (.ref R)==↑(c==n)
def uU{n:Str}{p:Addr->Bool}(h:kA K n p=true):∃R,nsIn K mainGlobals n=↑↑(.ref R)/\p R=true:=by
 unfold kA at h;split at h
 ·exact⟨_,by assumption,h⟩
 ·cases h
def MT(h:AC K C=true):iH K C:=by
 unfold AC at h;simp only[fo,mw] at h;obtain⟨⟨⟨⟨h1,h2⟩,D⟩,I⟩,U⟩:=h;refine⟨h1,h2,?_,I,U⟩;split at D
 ·rename_i g a e
  rw[fo,mw,mw] at D;rw[e,D.1,D.2]
 ·cases D
def Fz(h:(jN c).isSome=true):c∈n9:=by
 unfold jN at h;rw[Option.isSome_map] at h;obtain⟨w,e⟩:=nh.mp h;exact(kt (f6 e)).1
structure eL (K:kf) (mg:Str->h8):Prop where
 b:Fy K=true
 m:∀n∈("RotError" : Str)::n9,∀R,nsIn K mainGlobals n=↑↑(.ref R)->mg n=↑(.ref R)
def kf_mk(X:K.In h)(G:h.Ns mainGlobals mg)(b:Fy K=true):eL K mg:=⟨b,λ_ _ _ e=>mg_of X G e⟩
def eL.all(k:eL K mg)(V:(jN c).isSome=true)(cl:Cl K c C):iH K C/\kitOne K (.ref C) (.type "ValueError")=↑true/\(∃R,mg "RotError" = ↑(.ref R)/\exmOne K (.ref C) (.ref R)=↑true)/\∀n∈n9,∃R,mg n=↑(.ref R)/\kitOne K (.ref C) (.ref R)=↑(c==n):=by
 have h:=ie.mp k.b c (Fz V);obtain⟨a,e,h⟩:=uU h;cases e.symm.trans cl;simp only[fo,mw] at h;obtain⟨⟨⟨h1,h2⟩,D⟩,I⟩:=h;obtain⟨R,Y,D⟩:=uU D;refine⟨MT h1,h2,⟨R,k.m _ bi R Y,mw.mp D⟩,λn U=>?_⟩;obtain⟨R,Z,I⟩:=uU (ie.mp I n U);exact⟨R,k.m _ (ay _ U) R Z,mw.mp I⟩
def eL.rot(k:eL K mg):∃R,mg "RotError" = ↑(.ref R)/\∀c C,(jN c).isSome=true->Cl K c C->exmOne K (.ref C) (.ref R)=↑true:=by
 have h:=ie.mp k.b "UnknownStack" (by decide);obtain⟨V,e,_⟩:=uU h;obtain⟨_,_,⟨R,D,_⟩,_⟩:=k.all (c:="UnknownStack") (by decide) e;refine⟨R,D,λc C I cl=>?_⟩;obtain⟨_,_,⟨Y,U,z⟩,_⟩:=k.all I cl;cases D.symm.trans U;exact z
def uv(Y:eL X.K X.mg)(Z:(jN c).isSome=true)(cl:Cl X.K c C)(hd:Hd ea C X)(an:bR Nn Cn X)(a:cn∈n9:=by decide)(b:Gl X cn:=by walk_at "g")(D:(cn==("__debug__" : Str))=false:=by decide)(d:Bn X "isinstance":=by walk_at "b")(I:‹Nn[i]?=↑x›)(e:‹starEach [.Name x p1,.Name cn p2] X.env=(false,eval (.Name x p1) X.env)::starEach [.Name cn p2] X.env›)(U:‹starEach [.Name cn p2] X.env=(false,eval (.Name cn p2) X.env)::starEach [] X.env›)(V:‹(backTo pos (starEach [.Name cn p2] X.env)).any (·.1)=false›) :
  aT X G H0 (.Call (.Name "isinstance" p') [.Name x p1,.Name cn p2] [] pos) (dG ea i (c==cn)):=by
 obtain⟨f,_,_,h⟩:=Y.all Z cl;obtain⟨R,g,j⟩:=h cn a;exact MK hd f g j an b D d I e U V
def MU(V:eL X.K X.mg)(Y:(jN c).isSome=true)(cl:Cl X.K c C)(hd:Hd ea C X)(an:bR Nn Cn X)(Z:Bn X "ValueError":=by walk_at "b")(a:Bn X "isinstance":=by walk_at "b")(D:‹Nn[i]?=↑x›)(b:‹starEach [.Name x p1,.Name "ValueError" p2] X.env=(false,eval (.Name x p1) X.env)::starEach [.Name "ValueError" p2] X.env›)(I:‹starEach [.Name "ValueError" p2] X.env=(false,eval (.Name "ValueError" p2) X.env)::starEach [] X.env›)(U:‹(backTo pos (starEach [.Name "ValueError" p2] X.env)).any (·.1)=false›) :
  aT X G H0 (.Call (.Name "isinstance" p') [.Name x p1,.Name "ValueError" p2] [] pos) (dG ea i true):=MM hd (V.all Y cl).1 (V.all Y cl).2.1 an Z a D b I U
theorem MV(T:bU K mg st x ps)(N:h6)(D:∀c d,kd c=↑d->mX N.length g c d)(I:∀ {f:Addr} {cdv:Value} {A:Around} {outer:ip} {s:Shared} {H:Hp} {ea C:Addr} {c:Str} {G:Gd} {H0:Hp},(kd c).isSome=true->Cl K c C->Hd ea C (lA P w K mg base N x (i9 st) f cdv A outer s H)->bR N (jF N (i9 st)) (lA P w K mg base N x (i9 st) f cdv A outer s H)->eN N (lA P w K mg base N x (i9 st) f cdv A outer s H) ->
   gE (lA P w K mg base N x (i9 st) f cdv A outer s H) G H0 (pf st) (g ea c))(h:iX N ps (i9 st)=true:=by decide +kernel)(U:iW x=true:=by decide +kernel)(V:‹ps.length=1›):uT P w K mg base x (k+1) kd:=by
 obtain⟨f,fd,F,b,m⟩:=T;exact⟨f,fd,ps,A9 F (uq h).1 rfl V D λcdv A outer s H ea C c G H0 Y Z a=>I Y Z a (wx h).nox.hush (ww h).nox.hush,m,F.kp,b,(wb U).1⟩
def AD(ea:Addr)(c:Str):FS:=aE (aI 1 (aL (iy (az (dG ea 0 (c=="UnknownStack")) (az (dG ea 0 (c=="EmptyStack")) aC))))) (aE (aI 1 (aL (cM (aB 1) (aL (iy (az (dG ea 0 (c=="UnknownPlace")) (az (dG ea 0 (c=="BadHours")) aC))))))) (aE (aI 1 (aL (cM (aB 1) (aL (iy (az (dG ea 0 (c=="BadLoss")) (az (dG ea 0 (c=="BadCount")) aC))))))) (aE (aI 1 (aL (cM (aB 1) (aL (iy (az (dG ea 0 (c=="HouseFull")) (az (dG ea 0 (c=="DeedsFull")) aC))))))) (aE (aI 1 (aL (cM (aB 1) (aL (iy (az (dG ea 0 (c=="NothingWaits")) (az (dG ea 0 (c=="NothingDone")) aC))))))) (aE (aI 1 (aL (cM (aB 1) (aL (iy (az (dG ea 0 (c=="ShortOrder")) (az (dG ea 0 (c=="TooManyOrders")) aC))))))) (aE (aI 1 (aL (cM (aB 1) (aL (iy (az (dG ea 0 (c=="NotGone")) aC)))))) (aE (aI 2 (aL (iy (az (fC (.str "unknown stack")) (az (fC (.str "empty stack")) (az (fC (.str "unknown place")) (az (fC (.str "bad hours")) (az (fC (.str "bad loss")) (az (fC (.str "bad count")) aC))))))))) (aE (aI 2 (aL (cM (aB 2) (aL (iy (az (fC (.str "house full")) (az (fC (.str "deeds full")) (az (fC (.str "nothing waits")) (az (fC (.str "nothing done")) (az (fC (.str "short order")) aC)))))))))) (aE (aI 2 (aL (cM (aB 2) (aL (iy (az (fC (.str "too many orders")) (az (fC (.str "not gone")) aC))))))) (aE (aI 3 (aL (kj (jv gB (az (fC ↥13) aC)) [2,1,0] (cZ (aH (aF 2 (aB 0))) (aH (dG ea 3 true))) (aF 1 (aB 0))))) (aJ (e7 jZ (az (aL (cM (aL (iy (az (fC (.str "refused")) aC))) (aB 3))) aC)))))))))))))
def MW(X:Cx)(G:Gd)(H0:Hp)(is:ic)(F:FA):TA:=λσ H Q=>∃W env ds env',Ok X.K G H0 W env σ H/\F env=↑(ds,env')/\fD env' is /\
 ∀W' us ws H',Step W H W' H'->Ok X.K G H0 W' env' σ H'->us.length=is.length->(∀(j i:Nat),is[j]?=↑i->∃u,us[j]?=↑u/\σ[i]?=↑↑u)->aK X.K H' (Ow G W') ds ws->Q (ws++us) H'
structure PV (X:Cx) (G:Gd) (H0:Hp) (is:ic) (es:i0) (F:FA):Prop where
 out:PA X es (MW X G H0 is F)
def MX:D->Bool | .bl _=>true | .int _=>true | .str _=>true |_=>false
instance (ds es:k7):Decidable (ds=es/\ds.all MX=true):=Classical.propDecidable _
end L2
local macro_rules | `(!$t)=>`(some (.sh $t))
local macro_rules | `([:$t])=>`(L2.fC (.int $t))
namespace LB
open PySem L2
def F0:FS:=aJ (aD bA (aD cN (aF 0 [:1]) (aF 1 [:0])) (aD cN (aF 1 [:1]) (aF 0 [:0])))
def zh:k7->k8:=aR 2 2 F0
def uV:FS:=aE (aI 2 (e7 zh (az (aB 0) (az (aB 1) (aC))))) (aE (aZ (aH (aD dQ (aB 2) [:0])) (aJ [:1]) (aO)) (aE (aZ (aH (aD fZ (aB 2) [:0])) (aJ (gS dP [:1])) (aO)) (aJ [:0])))
def yl:k7->k8:=aR 3 2 uV
def F1:FS:=aJ (yv (fM "int" (aB 0)) (zB (fM "bool" (aB 0))))
def yk:k7->k8:=aR 1 1 F1
def AE:FS:=aE (aZ (aH (aD fZ (aB 1) (j6 0))) (aJ (aF 0 (aB 1))) (aO)) (aJ [:0])
def rz:k7->k8:=aR 2 2 AE
def uW:FS:=aE (aI 5 (e7 rz (az (aB 0) (az (aB 4) (aC))))) (aE (aZ (aH (aD b_ (aD bM (j6 0) [:2]) [:1])) (aE (aI 3 (aD bM (aD jw (aD jw (aD jw (aD cN (aB 3) [:48271]) (aB 5)) (aB 4)) [:1]) [:2147483647])) (aI 5 (aD bM (aD cN (aD jw (aB 3) (aB 4)) [:69621]) [:2147483647]))) (aO)) (j4 (pd 2 (aB 5))))
def F2:FS:=aE (bW 2 (iy (aC))) (aE (aI 3 [:7]) (aE (cP 4 (jv gB (az (aB 1) (aC))) (uW)) (aJ (aB 2))))
def rA:k7->k8:=aR 6 2 F2
def MY:FS:=aJ (aF 0 [:1])
def ue:k7->k8:=aR 1 1 MY
def MZ:FS:=aJ (aF 0 [:2])
def yf:k7->k8:=aR 1 1 MZ
def M_:FS:=aJ (bE (az [:1] (az (e7 ue (az (aB 0) (aC))) (az (e7 yf (az (aB 0) (aC))) (aC)))))
def uX:k7->k8:=aR 1 1 M_
def F3:FS:=aJ (bE (az (aD jw (aF 0 [:0]) (aF 1 [:0])) (az (aD jw (aF 0 [:1]) (aF 1 [:1])) (az (aD jw (aF 0 [:2]) (aF 1 [:2])) (aC)))))
def uY:k7->k8:=aR 2 2 F3
def F4:FS:=aJ (bE (az (aF 0 [:1]) (az (aF 0 [:2]) (aC))))
def rB:k7->k8:=aR 1 1 F4
def uZ:FS:=aJ (aD dQ (e7 yl (az (e7 rB (az (aB 0) (aC))) (az (e7 rB (az (aB 1) (aC))) (aC)))) [:0])
def yp:k7->k8:=aR 2 2 uZ
def u_:FS:=aI 3 (e7 uY (az (m3 1) (az (aB 3) (aC))))
def vc:FS:=aE (aI 3 (e7 uX (az (aB 2) (aC)))) (aE (qt (cZ (aH (aD dQ (j6 1) [:0])) (dO (aH (e7 yp (az (aF 1 (gS dP [:1])) (az (aB 3) (aC))))))) (u_) 10000) (j4 (pd 1 (aB 3))))
def AF:FS:=aE (bW 1 (iy (aC))) (aE (cP 2 (cV (aB 0)) (vc)) (aJ (aB 1)))
def AG:k7->k8:=aR 4 1 AF
def vl:FS:=aE (aZ (cZ (aH (fM "str" (aF 1 (aB 2)))) (dO (aH (fM "str" (aF 0 (aB 2)))))) (aJ (fC (.bl false))) (aO)) (aE (aZ (cZ (dO (aH (fM "str" (aF 1 (aB 2))))) (dO (aH (e7 yk (az (aF 0 (aB 2)) (aC)))))) (aJ (fC (.bl false))) (aO)) (aZ (aH (aD jS (aF 0 (aB 2)) (aF 1 (aB 2)))) (aJ (fC (.bl false))) (aO)))
def AH:FS:=aE (aZ (fS (dO (aH (fM "tuple" (aB 0)))) (aH (aD jS (j6 0) (j6 1)))) (aJ (fC (.bl false))) (aO)) (aE (cP 2 (jv gB (az (j6 1) (aC))) (vl)) (aJ (fC (.bl true))))
def rC:k7->k8:=aR 3 2 AH
def F5:FS:=aJ (bE (az (aF 0 [:2]) (az (aF 0 [:3]) (aC))))
def yj:k7->k8:=aR 1 1 F5
def rD:FS:=aI 2 (aD jw (aB 2) [:1])
def AI:FS:=aE (aI 2 [:0]) (aE (qt (cZ (aH (aD fZ (aB 2) (j6 0))) (aH (aD iK (e7 yl (az (e7 yj (az (aF 0 (aB 2)) (aC))) (az (e7 yj (az (aB 1) (aC))) (aC)))) [:0]))) (rD) 10000) (aJ (aB 2)))
def AJ:k7->k8:=aR 3 2 AI
def rE:FS:=aE (aI 7 (bE (az (aB 2) (az (aB 4) (az (aB 5) (az (aB 6) (aC))))))) (j4 (nS 1 (qO AJ (u8 1 (az (aB 7) (aC)))) (aB 7)))
def vr:FS:=qi [4,5,6] (cV (e7 AG (az (aB 3) (aC)))) (rE)
def AM:FS:=aE (bW 1 (iy (aC))) (aE (qi [2,3] (jv (iQ 1) (az (aB 0) (aC))) (vr)) (aJ (aB 1)))
def yo:k7->k8:=aR 8 1 AM
def vu:FS:=j4 (u3 1 (iB (iy (az (aB 2) (aC))) (aB 3)))
def AN:FS:=aE (bW 1 (iy (aC))) (aE (qi [2,3,4,5] (cV (e7 yo (az (aB 0) (aC)))) (vu)) (nQ 1))
def zi:k7->Option k7:=hB 6 1 AN
def rF:FS:=aE (aI 2 (aD jw (aB 2) (aD cO (aF 0 (aB 4)) [:1]))) (aE (aI 3 (aD jw (aB 3) (aD cO (aF 0 (aB 4)) [:2]))) (aZ (aH (aD iK (aD cN (aB 3) (aF 1 [:1])) (aD cN (aF 1 [:2]) (aB 2)))) (aI 1 (aL (iy (az (aD jw (aB 4) [:1]) (az (aB 2) (az (aB 3) (aC))))))) (aO)))
def vx:FS:=aE (aI 1 (aL (iy (az [:0] (az [:1] (az (gS dP [:1]) (aC))))))) (aE (aI 2 [:0]) (aE (aI 3 [:0]) (aE (cP 4 (jv gB (az (j6 0) (aC))) (rF)) (aJ (aB 1)))))
def rG:k7->k8:=aR 5 1 vx
def oH:FS:=aZ (aH (aD dQ (aD cN (aD cO (aF 3 (aB 5)) [:2]) (aD cO (aF 3 (aB 4)) [:1])) (aD cN (aD cO (aF 3 (aB 4)) [:2]) (aD cO (aF 3 (aB 5)) [:1])))) (aI 4 (aB 5)) (aO)
def v4:FS:=aE (aI 3 (aL (kj (mI 1) [] cA (e7 rG (az (aB 0) (aC)))))) (aE (aI 4 [:0]) (aE (cP 5 (jv gB (az (j6 3) (aC))) (oH)) (aE (j4 (pd 2 (bE (az (aD jw (aB 4) [:1]) (az (aD cO (aF 3 (aB 4)) [:0]) (az (aD cO (aF 3 (aB 4)) [:1]) (az (aD cO (aF 3 (aB 4)) [:2]) (aC)))))))) (vz 1 (aB 4) (aL (gT (aF 1 (aB 4)) (gK (aD cO (aF 3 (aB 4)) [:0])) (iL)))))))
def AO:FS:=aE (bW 1 (kj (cV (aB 0)) [] cA (aL (jv wv (az (aB 0) (aC)))))) (aE (bW 2 (iy (aC))) (aE (qt (aH (aD dQ (e7 fL (az (aL (kj (mI 1) [] cA (j6 0))) (aC))) [:0])) (v4) 10000) (aJ (aB 2))))
def rH:k7->k8:=aR 6 1 AO
def AQ:FS:=bW 1 (cM (aB 1) (aL (iB (iy (az (aF 2 [:0]) (aC))) (aF 2 [:1]))))
def AR:FS:=aE (bW 1 (iy (aC))) (aE (cP 2 (cV (e7 rH (az (aB 0) (aC)))) (AQ)) (nQ 1))
def AS:k7->Option k7:=hB 3 1 AR
def Na:FS:=aJ (aF 0 [:0])
def qv:k7->k8:=aR 1 1 Na
def AT:FS:=aZ (fS (aH (aD fZ (aB 1) [:1])) (aH (aD dQ (aB 1) (j6 0)))) (tS) (aO)
def AU:k7->k8:=aR 2 2 AT
def v5:FS:=aE (aZ (aH (aD b_ (aF 2 (aD bA (aB 3) [:1])) [:0])) (tS) (aO)) (y0 2 bA (aD bA (aB 3) [:1]) [:1])
def AV:FS:=aE (bW 2 (kj (cV (aB 0)) [] cA (j6 0))) (aE (cP 3 (cV (aB 1)) (v5)) (aZ (aH (aD dQ (nT 2) [:0])) (tS) (aO)))
def AW:k7->k8:=aR 4 2 AV
def v6:FS:=j4 (e7 AU (az (aB 0) (az (aB 2) (aC))))
def AX:FS:=aE (cP 2 (cV (aB 1)) (v6)) (j4 (e7 AW (az (aB 0) (az (aB 1) (aC)))))
def AY:k7->k8:=aR 3 2 AX
def v7:FS:=aE (j4 (pd 3 (aD cO (aF 0 (aD bA (aB 4) [:1])) (aF 2 (aD bA (aB 4) [:1]))))) (y0 2 jw (aD bA (aB 4) [:1]) [:1])
def AZ:FS:=aE (j4 (e7 AY (az (aB 0) (az (aB 1) (aC))))) (aE (bW 2 (kj (cV (aB 0)) [] cA [:0])) (aE (bW 3 (iy (aC))) (aE (cP 4 (cV (aB 1)) (v7)) (aJ (aB 3)))))
def mY:k7->k8:=aR 5 2 AZ
def A_:FS:=aE (aI 6 (aD jw (aB 3) (e7 ue (az (aB 5) (aC))))) (aE (j4 (pd 2 (bE (az (e7 qv (az (aB 5) (aC))) (az (aB 4) (az (aB 3) (az (aB 6) (aC)))))))) (aI 3 (aB 6)))
def Ba:FS:=aE (bW 2 (iy (aC))) (aE (aI 3 [:0]) (aE (qi [4,5] (jv mG (az (aB 1) (az (e7 mY (az (aB 0) (az (aB 1) (aC)))) (aC)))) (A_)) (aJ (aB 2))))
def Bb:k7->k8:=aR 7 2 Ba
def Bc:FS:=aE (aI 5 (aL (u6 (jv gB (az (j6 2) (aC))) [2] (aH (aD dQ (aF 1 (aB 0)) [:0])) (aB 0)))) (aE (aI 6 (aF 5 (aD bM (aB 1) (j6 5)))) (aE (aI 1 (aD c_ (aB 1) (j6 5))) (aE (vz 2 (aB 6) (aD bA (aF 2 (aB 6)) [:1])) (j4 (pd 3 (aD jw (aB 6) [:1]))))))
def Be:FS:=aE (bW 2 (kj (cV (aB 0)) [] cA (j6 0))) (aE (bW 3 (iy (aC))) (aE (cP 4 (jv gB (az (nT 2) (aC))) (Bc)) (nQ 3)))
def Bf:k7->Option k7:=hB 7 2 Be
def oI:FS:=aE (aI 2 (aD c_ (aB 1) [:3])) (aE (bW 3 (jv Bf (az (aB 0) (az (aB 2) (aC))))) (aE (aZ (cZ (aH (aD b_ (aD bM (aB 1) [:3]) [:1])) (aH (aD dQ (j6 3) [:0]))) (aE (bW 3 (jv AS (az (aB 0) (aC)))) (aE (aI 4 (tT 3 (aD bM (aB 2) (j6 3)))) (j4 (nS 3 (aD bM (aD c_ (aB 2) [:14]) (aD jw (j6 3) [:1])) (aB 4))))) (aO)) (aJ (aB 3))))
def Bg:k7->k8:=aR 5 2 oI
def Bh:FS:=aE (aI 3 (aD jw (aB 3) (e7 ue (az (aB 4) (aC))))) (aI 2 (aD jw (aB 2) (aD cN (e7 yf (az (aB 4) (aC))) (aB 3))))
def Bi:FS:=aE (aI 2 [:0]) (aE (aI 3 [:0]) (aE (cP 4 (cV (e7 mY (az (aB 0) (az (aB 1) (aC))))) (Bh)) (aJ (aB 2))))
def v8:k7->k8:=aR 5 2 Bi
def v9:FS:=aE (j4 (pd 3 (aD cO (aF 0 (aD bA (aB 4) [:1])) (aF 2 (aD bA (aB 4) [:1]))))) (vz 2 (aD bA (aB 4) [:1]) (aD jw (aF 2 (aD bA (aB 4) [:1])) [:1]))
def Bj:FS:=aE (bW 2 (kj (cV (aB 0)) [] cA [:0])) (aE (bW 3 (iy (aC))) (aE (cP 4 (cV (aB 1)) (v9)) (aJ (aB 3))))
def vA:k7->k8:=aR 5 2 Bj
def Bl:FS:=aJ (e7 v8 (az (aB 0) (az (aL (jv zi (az (aB 0) (aC)))) (aC))))
def rJ:k7->k8:=aR 1 1 Bl
def Bm:FS:=aE (aI 1 (aD jw (aB 1) (aF 3 [:1]))) (aI 2 (aD jw (aB 2) (aD cN (aF 3 [:2]) (aB 1))))
def Bo:FS:=aE (aI 1 [:0]) (aE (aI 2 [:0]) (aE (cP 3 (cV (aB 0)) (Bm)) (aJ (aB 2))))
def vB:k7->k8:=aR 4 1 Bo
def vC:FS:=aE (aI 8 (aF 2 (aD bA (aB 4) [:1]))) (aE (vz 2 (aD bA (aB 4) [:1]) (aD jw (aB 8) (aB 5))) (j4 (pd 3 (aL (gT (aF 0 (aD bA (aB 4) [:1])) (gK (aB 8)) (gK (aD jw (aB 8) (aB 5))))))))
def Bp:FS:=aE (bW 2 (kj (cV (aB 0)) [] cA [:0])) (aE (bW 3 (iy (aC))) (aE (qi [4,5,6,7] (cV (aB 1)) (vC)) (aJ (aB 3))))
def Bq:k7->k8:=aR 9 2 Bp
def Br:FS:=aE (aI 3 (aD jw (aB 3) (e7 ue (az (aB 5) (aC))))) (aE (aI 4 (aD jw (aB 4) (e7 yf (az (aB 5) (aC))))) (j4 (pd 2 (e7 zh (az (aB 0) (az (bE (az (aB 3) (az (aB 4) (aC)))) (aC)))))))
def Bs:FS:=aE (bW 2 (iy (aC))) (aE (aI 3 [:0]) (aE (aI 4 [:0]) (aE (cP 5 (cV (aL (gT (aB 1) (iL) (gK (gS dP [:1]))))) (Br)) (aJ (aB 2)))))
def vD:k7->k8:=aR 6 2 Bs
def Bt:FS:=aJ (bE (az (e7 ue (az (aB 0) (aC))) (az (e7 yf (az (aB 0) (aC))) (aC))))
def vE:k7->k8:=aR 1 1 Bt
def Bu:FS:=aJ (e7 zz (az (aL (nU 2 (jv (iQ 0) (az (aB 0) (aC))) [] cA (bE (az (e7 qv (az (aB 1) (aC))) (az (aB 0) (aC)))))) (aC)))
def vF:k7->k8:=aR 1 1 Bu
def rK:FS:=aZ (aH (aD fZ (aD vt (aB 2) (e7 qv (az (aB 7) (aC)))) (aD vt (aB 2) (e7 qv (az (aB 6) (aC)))))) (aE (aI 8 (e7 zh (az (e7 vE (az (aB 6) (aC))) (az (e7 vE (az (aB 7) (aC))) (aC))))) (j4 (pd 4 (bE (az (e7 qv (az (aB 6) (aC))) (az (e7 qv (az (aB 7) (aC))) (az (aB 8) (aC)))))))) (aO)
def Bv:FS:=cP 7 (cV (aL (gT (aB 3) (gK (aD jw (aB 5) [:1])) (iL)))) (rK)
def Bw:FS:=aE (aI 2 (e7 vF (az (e7 mY (az (aB 0) (az (aB 1) (aC)))) (aC)))) (aE (aI 3 (e7 mY (az (aB 0) (az (aL (jv zi (az (aB 0) (aC)))) (aC))))) (aE (bW 4 (iy (aC))) (aE (qi [5,6] (jv (iQ 0) (az (aB 3) (aC))) (Bv)) (aJ (aB 4)))))
def Bx:k7->k8:=aR 9 2 Bw
def vG:FS:=aE (aZ (fS (dO (aH (e7 yk (az (aB 3) (aC))))) (fS (aH (aD fZ (aB 3) [:1])) (aH (aD dQ (aB 3) (j6 1))))) (aJ (fC (.bl false))) (aO)) (vz 2 (aD bA (aB 3) [:1]) (aD jw (aF 2 (aD bA (aB 3) [:1])) [:1]))
def By:FS:=aZ (aH (aD jS (aF 2 (aB 4)) (e7 dM (az (aF 1 (aB 4)) (aC))))) (aJ (fC (.bl false))) (aO)
def Bz:FS:=aE (aZ (dO (aH (fM "list" (aB 0)))) (aJ (fC (.bl false))) (aO)) (aE (bW 2 (kj (cV (aB 1)) [] cA [:0])) (aE (cP 3 (cV (aB 0)) (vG)) (aE (cP 4 (jv gB (az (j6 1) (aC))) (By)) (aJ (fC (.bl true))))))
def B0:k7->k8:=aR 5 2 Bz
def B1:FS:=aJ (e7 fL (az (aL (kj (cV (aB 0)) [] cA (j6 0))) (aC)))
def vH:k7->k8:=aR 1 1 B1
def vI:FS:=aI 1 (aD jw (aB 1) (e7 fL (az (aL (kj (cV (aB 2)) [] cA (e7 yf (az (aB 0) (aC))))) (aC))))
def B2:FS:=aE (aI 1 [:0]) (aE (cP 2 (cV (aB 0)) (vI)) (aJ (aB 1)))
def B3:k7->k8:=aR 3 1 B2
def B4:FS:=aJ (aD cO (aF 0 (aD bA (aB 1) [:1])) [:0])
def vJ:k7->k8:=aR 2 2 B4
def B5:FS:=aJ (aL (cM (aL (cM (aL (gT (aB 0) (iL) (gK (aD bA (aB 1) [:1])))) (aL (iy (az (aB 2) (aC)))))) (aL (gT (aB 0) (gK (aB 1)) (iL)))))
def oJ:k7->k8:=aR 3 3 B5
def B6:FS:=aJ (e7 oJ (az (aB 0) (az (aB 1) (az (aL (gT (aF 0 (aD bA (aB 1) [:1])) (gK [:1]) (iL))) (aC)))))
def vK:k7->k8:=aR 2 2 B6
theorem Nb(I:ik)(k:Nat):∃c,rz [.lst (I.map D.int),↥k]=↑↥c:=by
 by_cases h:(k:Int)<I.length
 ·obtain⟨x,h1,h2⟩:=Ma (xs:=I.map D.int) (i:=(k:Int)) ∅ (by simpa using h)
  rw[b8] at h2;cases q:I[(k:Int).toNat]? with
  |none=>rw[q] at h2;cases h2
  |some c =>
    rw[q] at h2;cases h2;simp[rz,aR,AE,lf,h,h1]
 ·refine⟨0,?_⟩
  simp[rz,aR,AE,lf,h]
theorem Nc(I:ik)(n:Nat)(j:n<=1000):∃cs:ik,cs.length=n/\rA [.lst (I.map D.int),↥n]=↑(.lst (cs.map D.int)):=by
 have loop:=zf (i:=4) (g:=uW)
  (λk e=>∃(cs:ik) (st:Int) (Y Z:la),cs.length=k/\e=[!.lst (I.map D.int),!↥n,↑(.ow (cs.map D.int)),!↥st,Y,Z])
  (cG 0 n) [!.lst (I.map D.int),!↥n,↑(.ow []),!↥7,none,none] ⟨[],7,none,none,rfl,rfl⟩ ?_
 ·obtain⟨e',h1,cs,st,Y,Z,V,rfl⟩:=loop
  refine⟨cs,by rw[V,yg],?_⟩;have f:=vh n ∅;simp[rA,aR,F2,lf,f,h1]
 ·rintro k d e hd ⟨cs,st,Y,Z,V,rfl⟩
  obtain⟨rfl,l⟩:=mL hd;obtain⟨c,a⟩:=Nb I k;have U:bS (cs.length+1):=few ∅;by_cases b:(I.length:Int) % 2=1
  ·refine⟨_,?_,cs++[((st*48271+c+k+1) % 2147483647+k)*69621 % 2147483647],(st*48271+c+k+1) % 2147483647,!↥(0+k),!↥(((st*48271+c+k+1) % 2147483647+k)*69621 % 2147483647),by simp[V],rfl⟩
   have h:o7 48271:=qo (by decide);have s2:o7 69621:=qo (by decide);simp[uW,a,b,bM,cN,h,s2,U]
  ·refine⟨_,?_,cs++[c],st,!↥(0+k),!↥c,by simp[V],rfl⟩
   simp[uW,a,b,bM,U]
def vL(a b c d:Int)(D:o7 b)(hd:o7 d) :
  zh [.tup [↥a,↥b],.tup [↥c,↥d]]=↑↥(b*c-d*a):=by
 simp[zh,aR,F0,lf,cN,D,hd,bF,dV]
theorem F6(a b c d:Int)(V:o7 b)(hd:o7 d) :
  yl [.tup [↥a,↥b],.tup [↥c,↥d]]=↑↥(if d*a<b*c then 1 else if b*c<d*a then -1 else 0):=by
 have I:=vL a b c d V hd;by_cases h1:d*a<b*c
 ·have D:0<b*c-d*a:=by lia
  simp[yl,aR,uV,lf,I,h1,D]
 ·have D:¬0<b*c-d*a:=by lia
  by_cases h2:b*c<d*a
  ·have U:b*c-d*a<0:=by lia
   simp[yl,aR,uV,lf,I,h1,h2,D,U]
  ·have U:¬b*c-d*a<0:=by lia
   simp[yl,aR,uV,lf,I,h1,h2,D,U]
def vM(i:Int):yk [↥i]=↑(.bl true):=by
 simp[yk,aR,F1,lf]
abbrev Sk:=Int×Int×Int
abbrev lu:=List Sk
abbrev lx:=List (List Sk)
def sD(s:Sk):D:=.tup [↥s.1,↥s.2.1,↥s.2.2]
def ja(s:Sk):Prop:=1<=s.1/\s.1<=60/\1<=s.2.1/\s.2.1<=60/\0<=s.2.2/\s.2.2<=100
def b3:jB 1 1073741824 3:=⟨by decide,by decide⟩
def F7:jB 1 1073741824 12:=⟨by decide,by decide⟩
variable{n i:Nat}
def wf{i:Int}(D:0<=i)(h1:i<n):dV n i=↑i.toNat:=by unfold dV;rw[aq D,aq h1]
def F8{α β:Type}(f:α->β):∀(l:List α) (n:Nat),(l.eraseIdx n).map f=(l.map f).eraseIdx n
 | [],n=>by simp |a::l,0=>rfl
 |a::l,n+1=>by simp[List.eraseIdx_cons_succ,F8 f l n]
def PX(s:lu):lu:=match s.getLast? with
 |none=>[] |some x=>s.dropLast++[(x.1,x.2.1,x.2.2+1)]
structure Nd (menu:Int) (many k:Nat) (sss:lx) (pool:ik):Prop where
 len:sss.length=many
 tot:sss.flatten.length=k
 good:∀x∈sss.flatten,ja x/\(menu=3->x.2.2<=60)
 perm:(pool++sss.flatten.map (·.1)).Perm (zK 1 61)
structure F9 (most:Nat) (ss:lx):Prop where
 many:ss.length<=5
 tot:ss.flatten.length<=most
 good:∀x∈ss.flatten,ja x
 nd:(ss.flatten.map (·.1)).Nodup
def iT(xs:ik):D:=.tup (xs.map D.int)
variable{α:Type}{k:Nat}
theorem m9(f:α->D){xs:List α}{x:α}(h:xs[k]?=↑x):bF (xs.map f) (k:Int)=↑(f x):=by
 have I:=(aj.mp h).1;unfold bF;rw[wf ∅ (by rw[ah];lia)];simp[h]
abbrev Bk:=Int×Int×Int
def aN(r:lu):Int:=(r.map (·.2.1)).sum
def aQ(r:lu):Int:=(r.map (·.2.2)).sum
def bJ(r:lu):Bk:=(r.length,aN r,aQ r)
def jn(u b:Bk):Bk:=(u.1+b.1,u.2.1+b.2.1,u.2.2+b.2.2)
def gt(u b:Bk):Prop:=b.2.2*u.2.1<u.2.2*b.2.1
instance (u b:Bk):Decidable (gt u b):=inferInstanceAs (Decidable (_<_))
def iS(b:Bk):Prop:=o7 b.2.1/\o7 b.2.2
def Nf(s:Sk):uX [sD s]=↑(sD (1,s.2.1,s.2.2)):=by
 rfl
def Ng(u b:Bk):uY [sD u,sD b]=↑(sD (jn u b)):=by
 simp[uY,aR,F3,lf,sD,Mb,qS,nY,jn]
def Nh(u b:Bk)(Z:iS u)(a:iS b):yp [sD u,sD b]=↑(.bl (decide (gt u b))):=by
 obtain⟨c,I,U⟩:=u;obtain⟨d,V,b3⟩:=b;have Y:∀x y z:Int,rB [sD (x,y,z)]=↑(.tup [↥y,↥z]):=λx y z=>by simp[rB,aR,F4,lf,sD,qS,nY]
 have D:=F6 I U V b3 Z.2 a.2;by_cases h1:b3*I<U*V
 ·rw[aq h1] at D
  simp[yp,aR,uZ,lf,Y,D,gt,h1]
 ·rw[b7 h1] at D
  by_cases h2:U*V<b3*I
  ·rw[aq h2] at D
   simp[yp,aR,uZ,lf,Y,D,gt,h1]
  ·rw[b7 h2] at D
   simp[yp,aR,uZ,lf,Y,D,gt,h1]
def FB(bs:k7)(x:D):bF (bs++[x]) (-1)=↑x:=JC bs x
def se(a b:lu):aN (a++b)=aN a+aN b:=by simp[aN]
def t3(a b:lu):aQ (a++b)=aQ a+aQ b:=by simp[aQ]
def Ni(a b:lu):jn (bJ a) (bJ b)=bJ (a++b):=by
 simp only[jn,bJ,se,t3,ak];simp
theorem yz(r:lu)(h:∀x∈r,ja x):(r.length:Int)<=aN r/\aN r<=60*r.length/\0<=aQ r/\aQ r<=100*r.length:=by
 induction r with
 |nil=>simp[aN,aQ] |cons x r ih =>
   obtain⟨h1,h2,D,I⟩:=ih λy U=>h y (ay _ U);obtain⟨_,_,V,Y,Z,a⟩:=h x bi;simp[aN,aQ,gn] at h1 h2 D I ⊢
   lia
theorem oK(r:lu)(h:∀x∈r,ja x)(D:r.length<=1000):iS (bJ r):=by
 obtain⟨h1,h2,I,U⟩:=yz r h;exact⟨qo (by show -1000000000000<aN r/\aN r<1000000000000;lia),qo (by show -1000000000000<aQ r/\aQ r<1000000000000;lia)⟩
def o5:lx->lu->lx×lu
 | [],b=>([],b) |u::r,b=>if gt (bJ u) (bJ b) then(u::r,b) else o5 r (u++b)
def bD(r:lu):D:=sD (bJ r)
def Nj(v0 v2:la)(bs:k7)(u b:lu):u_ [v0,↑(.ow (bs++[bD u])),v2,!bD b]=↑(.nx,[v0,↑(.ow bs),v2,!bD (u++b)]):=by
 have e:=Ng (bJ u) (bJ b);rw[Ni] at e;simp[u_,bD,e]
theorem FC(v0 v2:la):∀(n:Nat) (D:lx) (b:lu),D.length<n->(∀r∈D,∀x∈r,ja x)->(∀x∈b,ja x)->(D.flatten.length+b.length<=1000) ->
  qt (cZ (aH (aD dQ (j6 1) [:0])) (dO (aH (e7 yp (az (aF 1 (gS dP [:1])) (az (aB 3) (aC))))))) u_ n
   [v0,↑(.ow (D.reverse.map bD)),v2,!bD b]=↑(.nx,[v0,↑(.ow ((o5 D b).1.reverse.map bD)),v2,!bD (o5 D b).2])
 |n+1,[],b,_,_,_,_=>by simp[qt,o5] |n+1,u::r,b,h,hs,hb,hl=>by
   rw[df,ak] at hl;have I:yp [bD u,bD b]=↑(.bl (decide (gt (bJ u) (bJ b)))):=Nh (bJ u) (bJ b) (oK u (hs u ⋯) ∅) (oK b hb ∅);have U:(0:Int)<(r.length:Int)+1:=by lia
   have V:=Nj v0 v2 (r.reverse.map bD) u b;unfold qt;rw[List.reverse_cons,bw,bq,dm];by_cases h1:gt (bJ u) (bJ b)
   ·simp[o5,h1,I,U,FB]
   ·have a:=FC v0 v2 n r (u++b) (by simpa using h) (λt Y=>hs t (by simp[Y])) (λx hx=>by
     rcases dy.mp hx with hx |hx
     ·exact hs u ⋯ x hx
     ·exact hb x hx) (by rw[ak];lia)
    have Z:o5 (u::r) b=o5 r (u++b):=by simp[o5,h1]
    rw[Z];have c:(cZ (aH (aD dQ (j6 1) [:0])) (dO (aH (e7 yp (az (aF 1 (gS dP [:1])) (az (aB 3) (aC)))))))
      [v0,↑(.ow (r.reverse.map bD++[bD u])),v2,!bD b]=↑(true,[v0,↑(.ow (r.reverse.map bD++[bD u])),v2,!bD b]):=by
     simp[h1,I,U,FB]
    grind
structure Good (r:lu):Prop where
 ne:r≠[]
 beg:∀p,p <+: r->aQ p*aN r<=aQ r*aN p
theorem B7(r:lu)(h:∀x∈r,ja x):0<=aN r:=by have:=yz r h;lia
theorem vm(r:lu)(h:∀x∈r,ja x)(D:r≠[]):0<aN r:=by
 have h1:=yz r h;have:0<r.length:=jl.mpr D
 lia
theorem vN{α:Type}:∀ {u b p:List α},p <+: u++b->p <+: u\/∃t,p=u++t/\t <+: b
 | [],b,p,h=>.inr ⟨p,rfl,h⟩ |a::u,b,[],h=>.inl List.nil_prefix |a::u,b,c::p,h=>by
   rw[im,List.cons_prefix_cons] at h;obtain⟨rfl,h⟩:=h;rcases vN h with h | ⟨t,rfl,ht⟩
   ·grind
   ·exact .inr ⟨t,rfl,ht⟩
variable{b:Bk}
theorem Good.join{u b:lu}(I:Good u)(V:Good b)(Y:∀x∈u,ja x)(Z:∀x∈b,ja x)(h:¬gt (bJ u) (bJ b)):Good (u++b):=by
 have h':aQ u*aN b<=aQ b*aN u:=zp.mp h;have d:=vm u Y I.ne;have c:=vm b Z V.ne;refine⟨by simp[I.ne],λp D=>?_⟩;rw[se,t3];rcases vN D with D | ⟨t,rfl,ht⟩
 ·-- within u
  have h1:=I.beg p D;have pp:0<=aN p:=B7 p λx U=>Y x (D.subset U);have k:aQ p*aN u*(aN u+aN b)<=aQ u*aN p*(aN u+aN b):=gi h1 ∅;have l:aN p*(aQ u*aN b)<=aN p*(aQ b*aN u):=wn h' pp;have e:aQ p*(aN u+aN b)*aN u<=(aQ u+aQ b)*aN p*aN u:=by
   lia
  exact zu e d
 ·-- u and a beginning of b
  rw[se,t3];have h1:=V.beg t ht;obtain⟨q,rfl⟩:=ht;rw[se,t3] at h1 h' ⊢;rw[se] at c;have f:0<=aN q:=B7 q λx U=>Z x (cw _ U);have g:aQ t*aN q<=aQ q*aN t:=by
   have m:aQ t*(aN t+aN q)=aQ t*aN t+aQ t*aN q:=ki _ _ _;have n:(aQ t+aQ q)*aN t=aQ t*aN t+aQ q*aN t:=qg _ _ _
   lia
  have o:aQ u*(aN t+aN q)*aN q<=(aQ t+aQ q)*aN u*aN q:=gi h' f;have i:0<=aN u:=by lia
  have b3:aN u*(aQ t*aN q)<=aN u*(aQ q*aN t):=wn g i;have j:aQ u*aN q*(aN t+aN q)<=aQ q*aN u*(aN t+aN q):=by
   lia
  have r:aQ u*aN q<=aQ q*aN u:=zu j c;simp only[ki,qg]
  lia
def mZ:lx->Prop
 | []=>True | [_]=>True |b::u::r=>gt (bJ u) (bJ b)/\mZ (u::r)
structure Runs (rs:lx) (s:lu):Prop where
 flat:rs.reverse.flatten=s
 good:∀r∈rs,Good r
 desc:mZ rs
theorem FD:∀(U:lx) (b:lu) (s:lu),Runs U s->Good b->(∀x∈s++b,ja x)->Runs ((o5 U b).2::(o5 U b).1) (s++b)
 | [],b,s,h,gb,_=>by
   have:s=[]:=by have:=h.flat;simpa using this.symm
   subst this;exact⟨by simp[o5],λr I=>by simp[o5] at I;rw[I];exact gb,trivial⟩
 |u::r,b,s,h,gb,hx=>by
   have V:s=r.reverse.flatten++u:=by rw[<-h.flat];simp
   by_cases h1:gt (bJ u) (bJ b)
   ·have e:o5 (u::r) b=(u::r,b):=by simp[o5,h1]
    rw[e];refine⟨by simp[V],λt ht=>?_,h1,h.desc⟩;rcases cr.mp ht with rfl |ht
    ·exact gb
    ·exact h.good t ht
   ·have e:o5 (u::r) b=o5 r (u++b):=by simp[o5,h1]
    rw[e];have I:Runs r r.reverse.flatten:=⟨rfl,λt ht=>h.good t (ay _ ht),by
     have:=h.desc;cases r with
     |nil=>trivial |cons v r=>exact this.2⟩
    have Y:Good (u++b):=(h.good u ⋯).join gb (λx D=>hx x (by rw[V];simp[D])) (λx D=>hx x (by simp[D])) h1;have:=FD r (u++b) r.reverse.flatten I Y (λx D=>hx x (by rw[V];simpa[or_assoc] using D))
    grind
def Nk(x:Sk)(h:ja x):Good [x]:=⟨by simp,λp I=>by
 have:p=[]\/p=[x]:=by
  obtain⟨t,D⟩:=I;cases p with
  |nil=>exact .inl rfl |cons y q=>simp at D;simp[D]
 rcases this with rfl |rfl
 ·simp[aQ,aN]
 ·exact Int.le_refl _⟩
def Nl(x:Sk):uX [sD x]=↑(bD [x]):=by
 rw[Nf];simp[bD,bJ,aN,aQ]
theorem Nm(S:D)(I:lx)(s:lu)(x:Sk)(v2 i:la)(h:Runs I s)(b:∀y∈s++[x],ja y)(o:s.length<900) :
  ∃V d,Runs V (s++[x])/\vc [!S,↑(.ow (I.reverse.map bD)),!sD x,i]=↑(.nx,[!S,↑(.ow (V.reverse.map bD)),!sD x,d]):=by
 have Y:I.flatten.length=s.length:=by
  rw[<-h.flat,kn,kn,List.map_reverse,List.sum_reverse]
 have j:I.length<=s.length:=by
  rw[<-Y];have:∀(l:lx),(∀r∈l,r≠[])->l.length<=l.flatten.length:=λl=>by
   induction l with
   |nil=>intro _;simp
   |cons a l ih =>
     intro Z;have:=ih λr U=>Z r (ay _ U);have k:0<a.length:=jl.mpr (Z a bi)
     grind
  exact this I λr U=>(h.good r U).ne
 have m:=FC ⇑S ⇑(sD x) 10000 I [x] ∅ (λr U y c=>b y (by
  rw[<-h.flat];exact fq _ (il.mpr ⟨r,by simpa using U,c⟩))) (λy c=>b y (by simp at c;simp[c])) (by rw[Y];simp;lia)
 have U:=FD I [x] s h (Nk x (b x ⋯)) b;refine⟨_,!bD (o5 I [x]).2,U,?_⟩;have g:(o5 I [x]).1.length<=s.length:=by
  have e:=U.flat;have:∀(l:lx),(∀r∈l,r≠[])->l.length<=l.flatten.length:=λl=>by
   induction l with
   |nil=>intro _;simp
   |cons a l ih =>
     intro Z;have:=ih λr U=>Z r (ay _ U);have k:0<a.length:=jl.mpr (Z a bi);rw[ao,df,ak]
     lia
  have h2:=this _ λr f=>(U.good r f).ne;have p:(((o5 I [x]).2::(o5 I [x]).1).flatten).length=(s++[x]).length:=by
   rw[<-e,kn,kn,List.map_reverse,List.sum_reverse]
  grind
 have n:bS ((o5 I [x]).1.length+1):=few ∅;unfold vc;simp only[aE,aI,e7,az,aB,aC,ae,af,ac,ai,Nl,av,aw,m,j4,pd,z8,ah,List.length_reverse,n,dh];simp
theorem FF(s:lu)(a:∀y∈s,ja y)(d:s.length<=14):∃D,Runs D s/\AG [.lst (s.map sD)]=↑(.lst (D.reverse.map bD)):=by
 obtain⟨e',h1,D,v2,I,U,rfl⟩:=uc (i:=2) (g:=vc) sD (λp e=>∃D v2 I,Runs D p/\e=[!.lst (s.map sD),↑(.ow (D.reverse.map bD)),v2,I]) s
  [!.lst (s.map sD),↑(.ow []),none,none] ⟨[],none,none,⟨rfl,λr U=>by simp at U,trivial⟩,rfl⟩ (by
   rintro p x q e V ⟨D,v2,I,U,rfl⟩;obtain⟨Y,b,Z,c⟩:=Nm (.lst (s.map sD)) D p x v2 I U (λy hy=>a y (by
    rw[V];rcases dy.mp hy with hy |hy
    ·simp[hy]
    ·simp at hy;simp[hy])) (by
    have:s.length=p.length+(q.length+1):=by rw[V];simp
    lia)
   exact⟨_,c,Y,_,_,Z,rfl⟩)
 refine⟨D,U,?_⟩;refine lm (e':=[!.lst (s.map sD),!.lst (D.reverse.map bD),v2,I]) rfl ?_;show AF [!.lst (s.map sD),none,none,none]=_;simp[AF,h1]
theorem No(a b c:k7):cutD (a++(b++c)) ↑((a.length:Int)) ↑((a.length:Int)+(b.length:Int))=b:=by
 unfold cutD;rw[HT.sIx_nat,show(a.length:Int)+(b.length:Int)=((a.length+b.length:Nat):Int) by lia,HT.sIx_nat];simp
def oM(f:α->Int)(r:List α):fL [.lst (r.map λx=>.int (f x))]=↑↥(r.map f).sum:=by
 have:(r.map λx=>D.int (f x))=(r.map f).map D.int:=by rw[gh];rfl
 rw[this];show(dL ((r.map f).map D.int)).map _=_;rw[DU];rfl
def FH{α:Type}{ix:ic}{g:FS}(I:α->k7)(P:List α->DE0->Prop)(all:List α)(U:∀x∈all,(I x).length=ix.length)(V:∀(p:List α) (x:α) (q:List α) (e:DE0),all=p++x::q->P p e->∃e',g (ql ix (I x) e)=↑(.nx,e')/\P (p++[x]) e') :
  ∀(xs pre:List α) (e:DE0),all=pre++xs->P pre e->∃e',gF ix g (xs.map λx=>D.tup (I x)) e=↑(.nx,e')/\P all e'
 | [],pre,e,h,hp=>⟨e,rfl,by rw[h,du];exact hp⟩ |x::xs,pre,e,h,hp=>by
   obtain⟨Y,h1,p1⟩:=V pre x xs e h hp;obtain⟨Z,h2,p2⟩:=FH I P all U V xs (pre++[x]) Y (by rw[h];simp) p1;have a:=U x (by rw[h];simp);exact⟨Z,by simp[gF,mD,a,h1,h2],p2⟩
variable{g:FS}
def xg{ix:ic}(I:α->k7)(P:List α->DE0->Prop)(all:List α)(e:DE0)(U:P [] e)(V:∀x∈all,(I x).length=ix.length)(Y:∀(p:List α) (x:α) (q:List α) (e:DE0),all=p++x::q->P p e->∃e',g (ql ix (I x) e)=↑(.nx,e')/\P (p++[x]) e') :
  ∃e',gF ix g (all.map λx=>D.tup (I x)) e=↑(.nx,e')/\P all e':=FH I P all V Y all [] e rfl U
def oN{α:Type}(f:α->D):∀(xs:List α) (c:Nat),rn c (xs.map f)=(xs.zipIdx c).map λp=>D.tup [↥(p.2:Nat),f p.1]
 | [],c=>rfl |x::xs,c=>by simp[rn,List.zipIdx_cons,oN f xs (c+1)]
def B8{α β:Type}(f:α->D)(g:β->D):∀(xs:List α) (ys:List β),fB (xs.map f) (ys.map g)=(xs.zip ys).map λp=>D.tup [f p.1,g p.2]
 | [],ys=>by simp[fB] |x::xs,[]=>by simp[fB] |x::xs,y::ys=>by simp[fB,B8 f g xs ys]
theorem zc{u:Bk}(h:gt u b):¬gt b u:=λz=>by
 unfold gt at h z
 lia
variable{c:Bk}
theorem vO{n:Bk}(U:0<n.2.1)(V:0<c.2.1)(D:0<b.2.1)(h1:gt n c)(h2:¬gt b c):gt n b:=by
 have h2:b.2.2*c.2.1<=c.2.2*b.2.1:=zp.mp h2;have Y:b.2.2*c.2.1*n.2.1<=c.2.2*b.2.1*n.2.1:=gi h2 ∅;have Z:c.2.2*n.2.1*b.2.1<n.2.2*c.2.1*b.2.1:=yq h1 D;have I:b.2.2*n.2.1*c.2.1<n.2.2*b.2.1*c.2.1:=by
  lia
 exact zt I ∅
theorem Np{n:Bk}(D:0<n.2.1)(U:0<c.2.1)(V:0<b.2.1)(h1:¬gt c n)(h2:gt c b):gt n b:=by
 have h1:c.2.2*n.2.1<=n.2.2*c.2.1:=zp.mp h1;have Y:c.2.2*n.2.1*b.2.1<=n.2.2*c.2.1*b.2.1:=gi h1 ∅;have Z:b.2.2*c.2.1*n.2.1<c.2.2*b.2.1*n.2.1:=yq h2 D;have I:b.2.2*n.2.1*c.2.1<n.2.2*b.2.1*c.2.1:=by
  lia
 exact zt I ∅
def FJ{n:Bk}(D:0<n.2.1)(I:0<c.2.1)(U:0<b.2.1)(h1:¬gt c n)(h2:¬gt b c):¬gt b n:=λz=>by
 have:=vO (n:=b) (c:=n) (b:=c) U D I z h1;exact h2 this
abbrev Tn:=Nat×lu
abbrev l0:=List Tn
def cE(t:Tn):D:=.tup [↥(t.1:Int),↥(t.2.length:Int),↥(aN t.2),↥(aQ t.2)]
def FK(t:Tn):yj [cE t]=↑(.tup [↥(aN t.2),↥(aQ t.2)]):=by
 simp[yj,aR,F5,lf,cE,Me,Mf]
def fU(a b:Tn):Bool:=not (decide (gt (bJ b.2) (bJ a.2)))
variable{b:lu}{a:Nat}
def Nq{a b:Tn}:fU a b=true↔¬gt (bJ b.2) (bJ a.2):=by simp[fU]
theorem Nr(t n:Tn)(D:iS (bJ t.2))(I:iS (bJ n.2)):∃z:Int,yl [.tup [↥(aN t.2),↥(aQ t.2)],.tup [↥(aN n.2),↥(aQ n.2)]]=↑↥z/\decide (0<=z)=fU t n:=by
 refine⟨_,F6 _ _ _ _ D.2 I.2,?_⟩;show decide ((0:Int)<=if aQ n.2*aN t.2<aQ t.2*aN n.2 then 1 else if aQ t.2*aN n.2<aQ n.2*aN t.2 then -1 else 0)=not (decide (aQ t.2*aN n.2<aQ n.2*aN t.2))
 lia
def iM(ts:l0)(n:Tn):Nat:=(ts.takeWhile λt=>fU t n).length
noncomputable def oO:FT:=cZ (aH (aD fZ (aB 2) (j6 0))) (aH (aD iK (e7 yl (az (e7 yj (az (aF 0 (aB 2)) (aC))) (az (e7 yj (az (aB 1) (aC))) (aC)))) [:0]))
theorem FM(n:Tn)(Z:iS (bJ n.2)):∀(D pre:l0) (I:Nat),D.length<I->(∀t∈D,iS (bJ t.2)) ->
  qt oO rD I [!.lst ((pre++D).map cE),!cE n,!↥(pre.length:Int)]=↑(.nx,[!.lst ((pre++D).map cE),!cE n,!↥((pre.length+iM D n:Nat):Int)])
 | [],pre,f+1,h,_=>by
   unfold qt oO;simp[iM]
 |t::r,pre,f+1,h,hs=>by
   obtain⟨z,b,hd⟩:=Nr t n (hs t ⋯) Z;have U:bF ((pre++t::r).map cE) (pre.length:Int)=↑(cE t):=m9 cE ⋯;have V:(pre.length:Int)<((pre++t::r).map cE).length:=by simp;lia
   have c:oO [!(.lst ((pre++t::r).map cE)),!cE n,!↥(pre.length:Int)]=↑(fU t n,[!(.lst ((pre++t::r).map cE)),!cE n,!↥(pre.length:Int)]):=by
    unfold oO;generalize (pre++t::r).map cE=L at U V;simp[V,U,FK,b,hd]
   unfold qt;rw[c,ac];cases hg:fU t n with
   |false =>
     simp[iM,hg]
   |true =>
     rw[aq rfl];have d:rD [!(.lst ((pre++t::r).map cE)),!cE n,!↥(pre.length:Int)]=↑(.nx,[!(.lst ((pre++t::r).map cE)),!cE n,!↥((pre++[t]).length:Int)]):=by
      simp[rD]
     rw[d,ac];have a:=FM n Z r (pre++[t]) f (by simpa using h) λt' Y=>hs t' (by simp[Y]);rw[cx,gm] at a;rw[a];have:(pre++[t]).length+iM r n=pre.length+iM (t::r) n:=by simp[iM,hg];lia
     rw[this]
theorem Nt(ts:l0)(n:Tn)(D:iS (bJ n.2))(I:∀t∈ts,iS (bJ t.2))(U:ts.length<9000):AJ [.lst (ts.map cE),cE n]=↑↥(iM ts n:Int):=by
 have h:=FM n D ts [] 10000 ∅ I;refine lm (e':=[!.lst (ts.map cE),!cE n,!↥(iM ts n:Int)]) rfl ?_;show AI [!.lst (ts.map cE),!cE n,none]=_;have h':qt oO rD 10000 [!.lst (ts.map cE),!cE n,!↥0]=_:=h;unfold oO at h';simp[AI,h']
def ins(ts:l0)(n:Tn):l0:=(ts.takeWhile λt=>fU t n)++n::ts.dropWhile λt=>fU t n
theorem Nu(ts:l0)(n:Tn):(ts.map cE).take (iM ts n)++cE n::(ts.map cE).drop (iM ts n)=(ins ts n).map cE:=by
 have e:=lp (p:=λt=>fU t n) (l:=ts);have D:iM ts n=(ts.takeWhile λt=>fU t n).length:=rfl;have h1:ts.take (iM ts n)=ts.takeWhile λt=>fU t n:=by
  grind
 have h2:ts.drop (iM ts n)=ts.dropWhile λt=>fU t n:=by
  grind
 rw[<-List.map_take,<-List.map_drop,h1,h2];simp[ins]
def Nv(ts:l0)(n:Tn):iM ts n<=ts.length:=(oj _).length_le
theorem Nw(v0 U Z:la)(ts:l0)(I:Nat)(r:lu)(a:iS (bJ r))(b:∀t∈ts,iS (bJ t.2))(c:ts.length<9000) :
  rE [v0,↑(.ow (ts.map cE)),!↥(I:Int),U,!↥(r.length:Int),!↥(aN r),!↥(aQ r),Z] =
   ↑(.nx,[v0,↑(.ow ((ins ts (I,r)).map cE)),!↥(I:Int),U,!↥(r.length:Int),!↥(aN r),!↥(aQ r),!(cE (I,r))]):=by
 have V:=Nt ts (I,r) a b c;have Y:=Nu ts (I,r);have h1:(iM ts (I,r):Int)<=((ts.map cE).length:Nat):=by rw[ah];have:=Nv ts (I,r);lia
 have h2:bS ((ts.map cE).length+1):=few (by rw[ah];lia);have d:D.tup [↥(I:Int),↥(r.length:Int),↥(aN r),↥(aQ r)]=cE (I,r):=rfl;have e:(0:Int)<=(iM ts (I,r):Int):=by lia
 generalize ts.map cE=L at V Y h1 h2;simp[rE,nS,qO,u8,d,V,z7,tY,e,h1,h2,gl,Y]
def B9(a b:Tn):Prop:=gt (bJ a.2) (bJ b.2)\/(¬gt (bJ b.2) (bJ a.2)/\a.1<b.1)
def cR(ts:l0)(j:Nat):lx:=(ts.filter λt=>t.1==j+1).map (·.2)
structure aM (ss:lx) (ts:l0):Prop where
 lo:∀t∈ts,1<=t.1/\t.1<=ss.length
 good:∀t∈ts,Good t.2
 part:∀(j:Nat) (s:lu),ss[j]?=↑s->(cR ts j).flatten=s
 srt:ts.Pairwise B9
 perm:(ts.map (·.2)).flatten.Perm ss.flatten
variable{ss:lx}{ts:l0}
def aM.sk(h:aM ss ts)(D:∀x∈ss.flatten,ja x):∀t∈ts,∀x∈t.2,ja x:=λt I x U =>
 D x (h.perm.mem_iff.mp (il.mpr ⟨t.2,fb.mpr ⟨t,I,rfl⟩,U⟩))
def aM.len1(h:aM ss ts):∀t∈ts,t.2.length<=ss.flatten.length:=λt D=>by
 rw[<-h.perm.length_eq];exact(f9 (fb.mpr ⟨t,D,rfl⟩)).length_le
theorem FN{α:Type}:∀(l:List (List α)),(∀r∈l,r≠[])->l.length<=l.flatten.length
 | [],_=>by simp |a::l,h=>by
   have:=FN l λr D=>h r (ay _ D);have I:0<a.length:=jl.mpr (h a bi);rw[ao,df,ak]
   lia
def aM.len(h:aM ss ts):ts.length<=ss.flatten.length:=by
 have:=FN (ts.map (·.2)) λr D=>by
  obtain⟨t,I,rfl⟩:=fb.mp D;exact(h.good t I).ne
 rw[ah,h.perm.length_eq] at this;exact this
protected def aM.pos(h:aM ss ts)(I:∀x∈ss.flatten,ja x):∀t∈ts,0<aN t.2:=λt D=>vm t.2 (h.sk I t D) (h.good t D).ne
def aM.sm(h:aM ss ts)(I:∀x∈ss.flatten,ja x)(U:ss.flatten.length<=1000):∀t∈ts,iS (bJ t.2):=λt D=>oK t.2 (h.sk I t D) (d7 (h.len1 t D) U)
theorem aM.more(h:aM ss ts):aM (ss++[[]]) ts/\cR ts ss.length=[]:=by
 have e:cR ts ss.length=[]:=by
  unfold cR;rw[i7.mpr λt I=>by have:=(h.lo t I).2;simp;lia];rfl
 refine⟨⟨λt I=>⟨(h.lo t I).1,by have:=(h.lo t I).2;simp;lia⟩,h.good,λj s D=>?_,h.srt,by simpa using h.perm⟩,e⟩;by_cases U:j<ss.length
 ·rw[bg U] at D
  exact h.part j s D
 ·have:j=ss.length:=by
   have:=(aj.mp D).1;simp at this
   lia
  subst this;simp at D;subst D;rw[e];rfl
def Nx{ts:l0}{n t:Tn}:t∈ins ts n↔t∈ts\/t=n:=by
 unfold ins;have e:=lp (p:=λt=>fU t n) (l:=ts);have D:t∈ts↔t∈(ts.takeWhile λt=>fU t n)\/t∈ts.dropWhile λt=>fU t n:=by
  conv=>lhs;rw[<-e]
  exact dy
 rw[D];simp[dy];constructor
 ·rintro(h |h |h)
  ·exact .inl (.inl h)
  ·exact .inr h
  ·exact .inl (.inr h)
 ·rintro((h |h) |h)
  ·exact .inl h
  ·exact .inr (.inr h)
  ·exact .inr (.inl h)
theorem aM.ins{ss:lx}{ts:l0}{pre r:lu}{p:lx}(h:aM (ss++[pre]) ts)(Y:cR ts ss.length=p)(n:Good r)(i:∀x∈r,ja x)(w:∀x∈(ss++[pre]).flatten,ja x)(hd:∀u∈p,gt (bJ u) (bJ r)):aM (ss++[pre++r]) (LB.ins ts (ss.length+1,r))/\cR (LB.ins ts (ss.length+1,r)) ss.length=p++[r]:=by
 have e:=lp (p:=λt=>fU t (ss.length+1,r)) (l:=ts);have hA:∀t∈(ts.takeWhile λt=>fU t (ss.length+1,r)),fU t (ss.length+1,r)=true:=λt I=>by
  have:=List.all_takeWhile (p:=λt=>fU t (ss.length+1,r)) (l:=ts);exact ie.mp this t I
 have pr:0<aN r:=vm r i n.ne;have D:=@Nx ts (ss.length+1,r);have k:∀U d,ts.dropWhile (λt=>fU t (ss.length+1,r))=U::d->gt (bJ r) (bJ U.2):=λU d hb=>by
  have:fU U (ss.length+1,r)=false:=by
   have:=List.head?_dropWhile_not (p:=λt=>fU t (ss.length+1,r)) ts;rw[hb] at this;simpa using this
  unfold fU at this;simpa using this
 unfold LB.ins at D ⊢;have srt:=h.srt;have pos:=h.pos w;have V:∀t∈ts,t.1=ss.length+1->gt (bJ t.2) (bJ r):=λt I Z=>hd t.2 (by
  rw[<-Y];exact fb.mpr ⟨t,jc.mpr ⟨I,by simp[Z]⟩,rfl⟩)
 have lo:=h.lo;have part:=h.part;have perm:=h.perm;rw[<-e] at srt pos V lo part perm Y;generalize (ts.takeWhile λt=>fU t (ss.length+1,r))=A at *;generalize (ts.dropWhile λt=>fU t (ss.length+1,r))=B at *;have o:∀b∈B,gt (bJ r) (bJ b.2):=λb hb=>by
  cases B with
  |nil=>simp at hb |cons U d =>
    have q:=k U d rfl;rcases cr.mp hb with rfl |hb'
    ·exact q
    ·have y:=(kg.mp srt).2.1
     have:=(gc.mp y).1 b hb';have C:¬gt (bJ b.2) (bJ U.2):=by
      rcases this with z |z
      ·exact zc z
      ·exact z.1
     exact vO pr (pos U ⋯) (pos b (by simp[hb'])) q C
 have v:(B.filter λt=>t.1==ss.length+1)=[]:=i7.mpr λt I=>by
  intro z;exact zc (o t I) (V t (by simp[I]) (by simpa using z))
 have of:cR (A++(ss.length+1,r)::B) ss.length=p++[r]:=by
  unfold cR at Y ⊢;rw[j1,v,du] at Y;rw[j1,nz ⋯,v,bw,Y];rfl
 refine⟨⟨λt I=>?_,λt I=>?_,λj s f=>?_,?_,?_⟩,of⟩
 ·rcases(D.mp I) with z |z
  ·have:=h.lo t z;simp at this ⊢;lia
  ·subst z;simp
 ·rcases(D.mp I) with z |z
  ·exact h.good t z
  ·subst z;exact n
 ·by_cases c:j<ss.length
  ·rw[bg c] at f
   have:=part j s (by rw[bg c];exact f);rw[<-this];unfold cR;rw[j1,j1,n6 (by simp;lia)]
  ·have:j=ss.length:=by
    have:=(aj.mp f).1;simp at this
    lia
   subst this;have E:pre++r=s:=by simpa using f
   rw[of,<-E];have:=part ss.length pre ⋯;rw[show cR (A++B) ss.length=p from Y] at this;simp[this]
 ·have m:=kg.mp srt
  refine kg.mpr ⟨m.1,gc.mpr ⟨λb hb=>.inl (o b hb),m.2.1⟩,λa g b hb=>?_⟩;rcases cr.mp hb with rfl |hb
  ·have F:=hA a g
   by_cases Z:a.1=ss.length+1
   ·exact .inl (V a (by simp[g]) Z)
   ·have:=(lo a (by simp[g])).2
    exact .inr ⟨Nq.mp F,by simp at this ⊢;lia⟩
  ·exact m.2.2 a g b hb
 ·have Z:((A++(ss.length+1,r)::B).map (·.2)).flatten=(A.map (·.2)).flatten++(r++(B.map (·.2)).flatten):=by simp
  have G:(ss++[pre++r]).flatten=(ss++[pre]).flatten++r:=by simp
  rw[Z,G];have H:((A++B).map (·.2)).flatten=(A.map (·.2)).flatten++(B.map (·.2)).flatten:=by simp
  rw[H] at perm;refine List.Perm.trans ?_ (perm.append_right r);rw[cx];exact pz _ List.perm_append_comm
def BA:∀(D:lx),mZ D->(∀r∈D,0<aN r)->D.Pairwise (λb u=>gt (bJ u) (bJ b))
 | [],_,_=>.nil | [b],_,_=>by simp |b::u::r,h,hp=>by
   have U:=BA (u::r) h.2 λx I=>hp x (ay _ I);refine gc.mpr ⟨λx I=>?_,U⟩;rcases cr.mp I with rfl |hx'
   ·exact h.1
   ·have:=(gc.mp U).1 x hx'
    exact vO (hp x (by simp[hx'])) (hp u ⋯) (hp b ⋯) this (zc h.1)
theorem Ny(S:D)(ss:lx)(s:lu)(ts:l0)(n o t v:la)(h:aM ss ts)(E:∀x∈(ss++[s]).flatten,ja x)(y:(ss++[s]).flatten.length<=14) :
  ∃I j k l c,aM (ss++[s]) I/\vr [!S,↑(.ow (ts.map cE)),!↥((ss.length+1:Nat):Int),!.lst (s.map sD),n,o,t,v] =
   ↑(.nx,[!S,↑(.ow (I.map cE)),!↥((ss.length+1:Nat):Int),!.lst (s.map sD),j,k,l,c]):=by
 have d:∀x∈s,ja x:=λx hx=>E x (by simp[hx]);have z:s.length<=14:=by simp at y;lia
 obtain⟨Z,w,G⟩:=FF s d z;have U:=w.flat;have f:∀r∈Z.reverse,Good r:=λr h=>w.good r (List.mem_reverse.mp h);have i:∀r∈Z.reverse,∀x∈r,ja x:=λr h x hx=>d x (by rw[<-U];exact il.mpr ⟨r,h,hx⟩);have m:Z.reverse.Pairwise (λu b=>gt (bJ u) (bJ b)):=by
  rw[List.pairwise_reverse];exact BA Z w.desc λr h=>vm r (i r (List.mem_reverse.mpr h)) (w.good r h).ne
 have F:=h.more;obtain⟨e',h1,I,j,k,l,c,A,H,rfl⟩:=xg (ix:=[4,5,6]) (g:=rE) (λr:lu=>[D.int (r.length:Int),↥(aN r),↥(aQ r)])
  (λp e=>∃I j k l c,aM (ss++[p.flatten]) I/\cR I ss.length=p/\e=[!S,↑(.ow (I.map cE)),!↥((ss.length+1:Nat):Int),!.lst (s.map sD),j,k,l,c]) Z.reverse
  [!S,↑(.ow (ts.map cE)),!↥((ss.length+1:Nat):Int),!.lst (s.map sD),n,o,t,v] ⟨ts,n,o,t,v,F.1,F.2,rfl⟩ (λ_ _=>rfl) (by
   rintro p r q e V ⟨I,j,k,l,c,ok,of,rfl⟩;have Y:r∈Z.reverse:=by rw[V];simp
   have a:∀x∈(ss++[p.flatten]).flatten,ja x:=λx hx=>by
    rw[fu,dy] at hx;rcases hx with hx |hx
    ·exact E x (by rw[fu];exact fq _ hx)
    ·refine d x ?_
     rw[<-U,V,fu];exact fq _ (by simpa using hx)
   have J:(ss++[p.flatten]).flatten.length<=14:=by
    have:p.flatten.length<=s.length:=by rw[<-U,V,fu,ak];lia
    rw[fu,ak] at y ⊢;simp only[df,nv,du] at y ⊢
    lia
   have B:∀u∈p,gt (bJ u) (bJ r):=λu K=>by
    rw[V] at m;exact(kg.mp m).2.2 u K r ⋯
   obtain⟨L,M⟩:=ok.ins of (f r Y) (i r Y) a B;have N:r.length<=14:=by
    have:r.length<=Z.reverse.flatten.length:=(f9 Y).length_le;rw[U] at this;lia
   have body:=Nw ⇑S ⇑(.lst (s.map sD)) c I (ss.length+1) r (oK r (i r Y) ∅) (ok.sm a ∅) (by have:=ok.len;lia);exact⟨_,body,_,_,_,_,_,by simpa using L,M,rfl⟩)
 refine⟨I,j,k,l,c,by rw[<-U];exact A,?_⟩;have C:gF [4,5,6] rE (Z.reverse.map bD) [!S,↑(.ow (ts.map cE)),!↥((ss.length+1:Nat):Int),!.lst (s.map sD),n,o,t,v]=_:=h1;simp only[vr,qi,cV,e7,az,aB,aC,ae,af,ac,ai,G,C]
def aG(ss:lx):D:=.lst (ss.map λs=>D.lst (s.map sD))
theorem vP(ss:lx)(j:∀x∈ss.flatten,ja x)(k:ss.flatten.length<=14):∃ts,aM ss ts/\yo [aG ss]=↑(.lst (ts.map cE)):=by
 obtain⟨e',h1,ts,v2,b,I,U,V,Y,ok,rfl⟩:=xg (ix:=[2,3]) (g:=vr) (λp:lu×Nat=>[D.int (p.2:Int),D.lst (p.1.map sD)])
  (λp e=>∃ts v2 b I U V Y,aM (p.map (·.1)) ts/\e=[!aG ss,↑(.ow (ts.map cE)),v2,b,I,U,V,Y]) (ss.zipIdx 1)
  [!aG ss,↑(.ow []),none,none,none,none,none,none] ⟨[],none,none,none,none,none,none,⟨by simp,by simp,by simp,.nil,by simp⟩,rfl⟩ (λ_ _=>rfl) (by
   rintro p x q e Z ⟨ts,v2,b,I,U,V,Y,ok,rfl⟩;have d:ss=p.map (·.1)++x.1::q.map (·.1):=by
    have:=congrArg (List.map (·.1)) Z;simpa using this
   have f:x.2=(p.map (·.1)).length+1:=by
    have:(ss.zipIdx 1)[p.length]?=↑x:=by rw[Z];simp
    rw[kh] at this;cases hs:ss[p.length]? with
    |none=>rw[hs] at this;cases this
    |some s =>
      rw[hs] at this;cases this;simp;lia
   have a:ss.flatten=(p.map (·.1)++[x.1]).flatten++(q.map (·.1)).flatten:=by rw[d];simp
   obtain⟨h,m,n,o,r,i,c⟩:=Ny (aG ss) (p.map (·.1)) x.1 ts I U V Y ok (λy l=>j y (by rw[a];exact fq _ l)) (by rw[a,ak] at k;lia);rw[<-f] at c;exact⟨_,c,h,_,_,_,_,_,_,by simpa using i,rfl⟩)
 refine⟨ts,by simpa using ok,?_⟩;refine lm (e':=[!aG ss,!.lst (ts.map cE),v2,b,I,U,V,Y]) rfl ?_;show AM [!aG ss,none,none,none,none,none,none,none]=_;have c:iQ 1 [aG ss]=↑((ss.zipIdx 1).map λp=>D.tup [D.int (p.2:Int),D.lst (p.1.map sD)]):=by
  show ↑(rn 1 (ss.map λs=>D.lst (s.map sD)))=_;rw[oN]
 simp only[AM,aE,bW,iy,aC,ac,ai,ce,ib,dh,av,aw,qi,jv,az,aB,ae,af,c,h1,aJ]
def kl(n:Nat)(ts:l0):lx:=(List.range n).map λj=>(cR ts j).flatten
def qp(n:Nat)(ts:l0):(kl n ts).length=n:=by simp[kl]
variable{j:Nat}
def vb(h:j<n):(kl n ts)[j]?=↑((cR ts j).flatten):=by simp[kl,h]
protected theorem aM.left(h:aM ss ts):kl ss.length ts=ss:=by
 apply ff;intro j;by_cases D:j<ss.length
 ·rw[vb D,h.part j ss[j] (by simp[D])]
  simp[D]
 ·rw[de (by rw[qp];lia),de ∅]
def m_(t:Tn)(ts:l0)(j:Nat)(h:t.1=j+1):cR (t::ts) j=t.2::cR ts j:=by
 unfold cR;rw[nz (by simp[h])];rfl
def rL(t:Tn)(ts:l0)(j:Nat)(h:t.1≠j+1):cR (t::ts) j=cR ts j:=by
 unfold cR;rw[n6 (by simp[h])]
variable{t:Tn}
theorem FQ(h1:1<=t.1)(h2:t.1<=n):(kl n (t::ts))[t.1-1]?=↑(t.2++(cR ts (t.1-1)).flatten):=by
 rw[vb ∅,m_ t ts (t.1-1) ∅];simp
theorem Nz(h1:1<=t.1)(h2:t.1<=n):kl n ts=(kl n (t::ts)).set (t.1-1) ((cR ts (t.1-1)).flatten):=by
 apply ff;intro j;by_cases D:j<n
 ·rw[jh,vb D,vb D,qp]
  by_cases e:t.1-1=j
  ·subst e
   simp[D]
  ·rw[b7 e,rL t ts j ∅]
 ·rw[de (by rw[qp];lia),de (by rw[d9,qp];lia)]
theorem FR(h1:1<=t.1)(h2:t.1<=n):kl n (t::ts)=(kl n ts).set (t.1-1) (t.2++(cR ts (t.1-1)).flatten):=by
 apply ff;intro j;by_cases D:j<n
 ·rw[jh,vb D,vb D,qp]
  by_cases e:t.1-1=j
  ·subst e
   rw[m_ t ts (t.1-1) ∅];simp[D]
  ·rw[b7 e,rL t ts j ∅]
 ·rw[de (by rw[qp];lia),de (by rw[d9,qp];lia)]
def vQ{α:Type}:∀ {l:List (List α)} {j:Nat} {s x:List α},l[j]?=↑s->(l.set j (x++s)).flatten.Perm (x++l.flatten)
 |a::l,0,s,x,h=>by
   simp at h;subst h;simp
 |a::l,j+1,s,x,h=>by
   have D:=vQ (l:=l) (j:=j) (s:=s) (x:=x) (by simpa using h);simp;refine(D.append_left a).trans ?_;rw[<-cx,<-cx];exact List.perm_append_comm.append_right _
theorem BB{n:Nat}:∀ {ts:l0},(∀t∈ts,1<=t.1/\t.1<=n)->(ts.map (·.2)).flatten.Perm (kl n ts).flatten
 | [],_=>by
   have:(kl n []).flatten=[]:=by simp[kl,cR]
   rw[this];exact .nil
 |t::ts,h=>by
   have D:=BB (n:=n) (ts:=ts) λt' I=>h t' (ay _ I);obtain⟨h1,h2⟩:=h t bi;rw[FR h1 h2,bq,df];exact(D.append_left t.2).trans (vQ (vb ∅)).symm
def aM.tail(h:aM (kl n (t::ts)) (t::ts)):aM (kl n ts) ts:=by
 have lo:∀t'∈ts,1<=t'.1/\t'.1<=n:=λt' D=>by
  have:=h.lo t' (ay _ D);rw[qp] at this;exact this
 refine⟨λt' D=>by rw[qp];exact lo t' D,λt' D=>h.good t' (ay _ D),λj s I=>?_,(gc.mp h.srt).2,BB lo⟩;have U:=(aj.mp I).1;rw[qp] at U;rw[vb U] at I;exact cg I
def N0(a b:k7):cutD (a++b) none ↑(a.length:Int)=a:=by
 unfold cutD;rw[HT.sIx_none,HT.sIx_nat];simp
def BC(a b:k7):cutD (a++b) ↑(a.length:Int) none=b:=by
 unfold cutD;rw[HT.sIx_none,HT.sIx_nat];simp
variable{ar:Nat}{ds:k7}{e':DE0}
def BD{I:k7}(h:ds.length=ar)(U:g (lf n ds)=↑(.rf I,e')):hB n ar g ds=↑I:=by
 unfold hB;rw[aq h,U]
def hT:lx->Bk
 | []=>(0,1,-1) |r::_=>bJ r
def kD(b:Bk):D:=.lst [↥b.1,↥b.2.1,↥b.2.2]
variable{r:lu}{q:ic}
theorem N1{q:lu}(h1:gt (bJ r) (bJ b))(h2:gt (bJ r) (bJ q)):gt (bJ r) (bJ (b++q)):=by
 have h1:aQ b*aN r<aQ r*aN b:=h1;have h2:aQ q*aN r<aQ r*aN q:=h2;show aQ (b++q)*aN r<aQ r*aN (b++q);rw[t3,se,qg,ki]
 lia
theorem FU{r:lu}(pr:0<aN r):∀(rest:lx) (q:lu),(∀b∈rest,gt (bJ r) (bJ b))->(∀b∈rest,Good b)->(∀b∈rest,∀x∈b,ja x)->q <+: rest.flatten->q≠[]->gt (bJ r) (bJ q)
 | [],q,_,_,_,hq,ne=>by simp at hq;exact absurd hq ne |b::rest,q,hd,hg,hs,hq,ne=>by
   have I:=hg b ⋯;have U:=hs b ⋯;rcases vN hq with hq | ⟨q',rfl,hq'⟩
   ·have sq:∀x∈q,ja x:=λx Y=>U x (hq.subset Y)
    refine vO pr (vm b U I.ne) (vm q sq ne) (hd b ⋯) ?_;have:=I.beg q hq;show ¬(aQ b*aN q<aQ q*aN b)
    lia
   ·by_cases V:q'=[]
    ·subst V
     rw[du];exact hd b ⋯
    ·exact N1 (hd b ⋯) (FU pr rest q' (λc D=>hd c (by simp[D])) (λc D=>hg c (by simp[D])) (λc D=>hs c (by simp[D])) hq' V)
variable{s:lu}
def N3(D:k<s.length):aN (s.take (k+1))=aN (s.take k)+s[k].2.1/\aQ (s.take (k+1))=aQ (s.take k)+s[k].2.2:=by
 rw[lj D,se,t3];simp[aN,aQ]
theorem N4(D:∀x∈s,ja x)(U:s.length<=14)(k:Nat):0<=aN (s.take k)/\aN (s.take k)<=840/\0<=aQ (s.take k)/\aQ (s.take k)<=1400:=by
 have:=yz (s.take k) λx I=>D x (List.mem_of_mem_take I);have h2:(s.take k).length<=14:=by rw[fj];lia
 lia
theorem N5(U:lx)(hd:U.Pairwise λu b=>gt (bJ u) (bJ b))(K:∀r∈U,Good r)(l:∀x∈U.flatten,ja x)(L:U.flatten.length<=14):rG [.lst (U.flatten.map sD)]=↑(kD (hT U)):=by
 cases U with
 |nil=>simp[rG,aR,vx,lf,hT,kD,vh 0 ∅,cG,dE,show gB [↥0]=↑(cG 0 0) from vh 0 ∅] |cons r rest =>
   have t:(r::rest).flatten=r++rest.flatten:=df ..;rw[t] at l L ⊢;have v:=K r ⋯;have M:∀x∈r,ja x:=λx w=>l x (by simp[w]);have pr:=vm r M v.ne;have S:=yz r M;have y:=(gc.mp hd).1;generalize c:r++rest.flatten=s at *;have A:r.length<=s.length:=by rw[<-c];simp
   have tk:∀k,k<=r.length->s.take k <+: r:=λk m=>by
    rw[<-c,iu m];exact List.take_prefix _ _
   obtain⟨e',h1,T,n,rfl,V,Y⟩:=zf (i:=4) (g:=rF) (λk e=>∃(b:Bk) (n:la),e=[!.lst (s.map sD),!kD b,!↥(aN (s.take k)),!↥(aQ (s.take k)),n] /\
     (k<r.length->b=(0,1,-1)\/∃q,q <+: r/\b=bJ q)/\(r.length<=k->b=bJ r)) (cG 0 s.length)
    [!.lst (s.map sD),!(kD (0,1,-1)),!↥0,!↥0,none] ⟨(0,1,-1),none,by simp[aN,aQ],λ_=>.inl rfl,λh=>absurd (List.length_eq_zero_iff.mp (Nat.le_zero.mp h)) v.ne⟩ (by
     rintro k d e B ⟨b,n,rfl,V,Y⟩;obtain⟨rfl,m⟩:=mL B;obtain⟨o,p⟩:=N3 m;have W:=N4 l L (k+1);have N:bF (s.map sD) (0+(k:Int))=↑(sD s[k]):=by rw[j2];exact m9 sD (by simp[m])
     have D:o7 (aN (s.take (k+1))):=qo ∅;have I:o7 (aQ (s.take (k+1))):=qo ∅;have O:cO (sD s[k]) ↥1=↑(.int s[k].2.1):=rfl;have P:cO (sD s[k]) ↥2=↑(.int s[k].2.2):=rfl;have C:rF [!.lst (s.map sD),!kD b,!↥(aN (s.take k)),!↥(aQ (s.take k)),!↥(0+(k:Int))] =
       ↑(.nx,[!.lst (s.map sD),!(kD (if b.2.2*aN (s.take (k+1))<=aQ (s.take (k+1))*b.2.1 then bJ (s.take (k+1)) else b)),!↥(aN (s.take (k+1))),!↥(aQ (s.take (k+1))),!↥(0+(k:Int))]):=by
      have j:((s.take (k+1)).length:Int)=0+(k:Int)+1:=by rw[fj];lia
      by_cases f:b.2.2*aN (s.take (k+1))<=aQ (s.take (k+1))*b.2.1
      ·rw[aq f,show bJ (s.take (k+1))=(0+(k:Int)+1,aN (s.take (k+1)),aQ (s.take (k+1))) by unfold bJ;rw[j]]
       rw[o] at D;rw[p] at I;rw[o,p] at f ⊢;simp only[rF,kD,aE,aI,aZ,aO,aD,aB,aF,bT,fC,aH,aL,iy,az,aC,ae,af,ac,ai,av,aw,N,O,P,jw,qS,nY,vy I,u9 D,iK,ke f,dh,ao,ce,show(0+1+1+1<=64)=True by simp]
      ·rw[b7 f]
       rw[o] at D;rw[p] at I;rw[o,p] at f ⊢;simp only[rF,kD,aE,aI,aZ,aO,aD,aB,aF,bT,fC,aH,aL,iy,az,aC,ae,af,ac,ai,av,aw,N,O,P,jw,qS,nY,vy I,u9 D,iK,em f,cj,f8]
     refine⟨_,C,_,_,rfl,λZ=>?_,λQ=>?_⟩
     ·split
      ·exact .inr ⟨_,tk (k+1) ∅,rfl⟩
      ·exact V ∅
     ·by_cases E:r.length<=k
      ·have a:=Y E
       subst a;rw[b7];have F:s.take (k+1)=r++rest.flatten.take (k+1-r.length):=by
        rw[<-c,List.take_append,i6 ∅]
       have G:(rest.flatten.take (k+1-r.length))≠[]:=by
        intro z;have:=congrArg List.length z;rw[fj] at this;have R:s.length=r.length+rest.flatten.length:=by rw[<-c,ak]
        simp only[ce] at this
        lia
       have Z:=FU pr rest _ y (λb a=>K b (by simp[a])) (λb a x w=>l x (by rw[<-c];exact cw _ (il.mpr ⟨b,a,w⟩))) (List.take_prefix (k+1-r.length) rest.flatten) G;rw[F,se,t3];have Z:aQ (rest.flatten.take (k+1-r.length))*aN r<aQ r*aN (rest.flatten.take (k+1-r.length)):=Z;show ¬(aQ r*(aN r+aN _)<=(aQ r+aQ _)*aN r);rw[ki,qg]
       lia
      ·have H:k+1=r.length:=by lia
       have F:s.take (k+1)=r:=by rw[H,<-c];exact zo
       rw[F,aq];rcases V ∅ with rfl | ⟨q,G,rfl⟩
       ·show -1*aN r<=aQ r*1
        lia
       ·exact v.beg q G)
   rw[yg,List.take_length] at h1;have a:=Y (by rw[yg];exact A);subst a;have hi:gB [↥(s.length:Int)]=↑(cG 0 s.length):=vh s.length ∅;refine lm (e':=[!.lst (s.map sD),!kD (bJ r),!↥(aN s),!↥(aQ s),n]) rfl ?_;show vx [!.lst (s.map sD),none,none,none,none]=_;have J:kD (0,1,-1)=.lst [↥0,↥1,↥(-1)]:=rfl;rw[J] at h1;simp[vx,hi,h1];rfl
def BE(h:r∈cR ts j):(j+1,r)∈ts:=by
 obtain⟨t,D,rfl⟩:=fb.mp h;obtain⟨h1,h2⟩:=jc.mp D;have:t.1=j+1:=by simpa using h2
 rw[<-this];exact h1
theorem N6(h:ts.Pairwise B9):(cR ts j).Pairwise λu b=>gt (bJ u) (bJ b):=by
 unfold cR;rw[List.pairwise_map,List.pairwise_filter];refine h.imp λ{a b} hab ha hb=>?_;rcases hab with z |z
 ·exact z
 ·have h1:a.1=j+1:=by simpa using ha
  have h2:b.1=j+1:=by simpa using hb
  lia
def ua(n:Nat)(ts:l0):List Bk:=(List.range n).map λj=>hT (cR ts j)
def BF(h:j<n):(ua n ts)[j]?=↑(hT (cR ts j)):=by simp[ua,h]
theorem vR(ok:aM (kl n (t::ts)) (t::ts)):hT (cR (t::ts) (t.1-1))=bJ t.2:=by
 have h1:=(ok.lo t ⋯).1;rw[m_ t ts (t.1-1) ∅];rfl
theorem FW(ok:aM (kl n (t::ts)) (t::ts))(D:∀x∈(kl n (t::ts)).flatten,ja x)(j:Nat) :
  ¬gt (hT (cR (t::ts) j)) (bJ t.2)/\(j<t.1-1->gt (bJ t.2) (hT (cR (t::ts) j))):=by
 have pt:=ok.pos D t ⋯;have st:=yz t.2 (ok.sk D t ⋯);cases h:cR (t::ts) j with
 |nil =>
   have g:gt (bJ t.2) (0,1,-1):=by
    show -1*aN t.2<aQ t.2*1
    lia
   exact⟨zc g,λ_=>g⟩
 |cons r rest =>
   have hm:(j+1,r)∈t::ts:=BE (by rw[h];simp);rcases cr.mp hm with e |hm
   ·subst e
    exact⟨λz=>zc z z,λz=>by simp at z⟩
   ·have I:=(gc.mp ok.srt).1 _ hm
    rcases I with z | ⟨z,z'⟩
    ·exact⟨zc z,λ_=>z⟩
    ·exact⟨z,λw=>by simp at z';lia⟩
def N7(n:Nat)(ts:l0):(kl n ts).map (λs=>D.lst (s.map sD))=(List.range n).map λj=>D.lst ((cR ts j).flatten.map sD):=by
 unfold kl;rw[gh];rfl
def N8(h:j<n):∀x∈(cR ts j).flatten,x∈(kl n ts).flatten:=λx D =>
 il.mpr ⟨_,bc (vb (ts:=ts) h),D⟩
def N9(h:j<n):(cR ts j).flatten.length<=(kl n ts).flatten.length :=
 (f9 (bc (vb (ts:=ts) h))).length_le
theorem FX(ok:aM (kl n ts) ts)(D:∀x∈(kl n ts).flatten,ja x)(I:(kl n ts).flatten.length<=14)(j:Nat):iS (hT (cR ts j)):=by
 cases h:cR ts j with
 |nil=>exact⟨qo (by decide),qo (by decide)⟩ |cons r rest=>exact ok.sm D ∅ (j+1,r) (BE (by rw[h];simp))
def NA(H:List Bk)(v0 v1 v2:la)(k p:Nat)(bk D:Bk)(c:H[k]?=↑bk)(d:H[p]?=↑D)(sk:iS bk)(sp:iS D) :
  oH [v0,v1,v2,!.lst (H.map kD),!↥(p:Int),!↥(0+(k:Int))] =
   ↑(.nx,[v0,v1,v2,!.lst (H.map kD),!↥((if gt bk D then k else p:Nat):Int),!↥(0+(k:Int))]):=by
 rw[j2];have V:bF (H.map kD) (k:Int)=↑(kD bk):=m9 kD c;have Y:bF (H.map kD) (p:Int)=↑(kD D):=m9 kD d;have Z:∀b:Bk,cO (kD b) ↥1=↑↥b.2.1:=λ_=>rfl;have a:∀b:Bk,cO (kD b) ↥2=↑↥b.2.2:=λ_=>rfl;by_cases U:gt bk D
 ·have I:D.2.2*bk.2.1<bk.2.2*D.2.1:=U
  rw[aq U];simp only[oH,aZ,aI,aO,aH,aD,aF,bT,aB,fC,ae,af,ac,ai,av,aw,V,Y,Z,a,vy sk.2,vy sp.2,dQ,ke I,dh]
 ·have I:¬D.2.2*bk.2.1<bk.2.2*D.2.1:=U
  rw[b7 U];simp only[oH,aZ,aI,aO,aH,aD,aF,bT,aB,fC,ae,af,ac,ai,av,aw,V,Y,Z,a,vy sk.2,vy sp.2,dQ,em I,cj,f8]
theorem NB(ok:aM (kl n (t::ts)) (t::ts))(Y:∀x∈(kl n (t::ts)).flatten,ja x)(j:(kl n (t::ts)).flatten.length<=14)(v0 v1 v2 V:la) :
  ∃I,dE 5 oH (cG 0 n) [v0,v1,v2,!(.lst ((ua n (t::ts)).map kD)),!↥0,V] =
   ↑(.nx,[v0,v1,v2,!(.lst ((ua n (t::ts)).map kD)),!↥((t.1-1:Nat):Int),I]):=by
 have lo:=ok.lo t ⋯;rw[qp] at lo;have Z:t.1-1<n:=by lia
 obtain⟨e',h1,p,I,rfl,_,U,D⟩:=zf (i:=5) (g:=oH) (λk e=>∃(p:Nat) (V:la),e=[v0,v1,v2,!(.lst ((ua n (t::ts)).map kD)),!↥(p:Int),V]/\p<n/\(k<=t.1-1->p<=t.1-1/\(p<k\/p=0))/\(t.1-1<k->p=t.1-1))
  (cG 0 n) [v0,v1,v2,!(.lst ((ua n (t::ts)).map kD)),!↥0,V] ⟨0,V,rfl,by lia,λ_=>⟨ib _,.inr rfl⟩,λh=>absurd h (Nat.not_lt_zero _)⟩ (by
    rintro k d e a ⟨p,V,rfl,hpn,U,D⟩;obtain⟨rfl,l⟩:=mL a;have body:=NA (ua n (t::ts)) v0 v1 v2 k p _ _ (BF l) (BF hpn) (FX ok Y j k) (FX ok Y j p);refine⟨_,body,_,_,rfl,?_,λm=>?_,λb=>?_⟩
    ·split <;> lia
    ·have:=U ∅
     split
     ·exact⟨by lia,.inl ∅⟩
     ·exact⟨this.1,by lia⟩
    ·rcases Nat.lt_or_eq_of_le (Nat.le_of_lt_succ b) with hlt' |heq
     ·have c:=D hlt'
      subst c;rw[vR ok,b7 (FW ok Y k).1]
     ·have:=U ∅
      subst heq;rw[vR ok];by_cases f:p=t.1-1
      ·subst f
       rw[vR ok,b7 (λz=>zc z z)]
      ·rw[aq ((FW ok Y p).2 ∅)])
 rw[yg] at D;have c:=D Z;subst c;exact⟨I,h1⟩
noncomputable def vS:FT:=aH (aD dQ (e7 fL (az (aL (kj (mI 1) [] cA (j6 0))) (aC))) [:0])
theorem NC(ok:aM (kl n (t::ts)) (t::ts))(h:∀x∈(kl n (t::ts)).flatten,ja x)(i:(kl n (t::ts)).flatten.length<=14)(G:n<=1000)(v0 l m k:la)(M:k7)(H:M.length<=1000) :
  ∃o p a,v4 [v0,↑(.ow ((kl n (t::ts)).map λs=>D.lst (s.map sD))),↑(.ow M),l,m,k]=↑(.nx,[v0,↑(.ow ((kl n ts).map λs=>D.lst (s.map sD))),↑(.ow (M++[cE t])),o,p,a]):=by
 have lo:=ok.lo t ⋯;rw[qp] at lo;have c:=ud (te:=e7 rG (az (aB 0) (aC))) (base:=[]) (λj:Nat=>D.lst ((cR (t::ts) j).flatten.map sD)) (λj:Nat=>kD (hT (cR (t::ts) j))) (List.range n) (λj Z=>by
  have Z:j<n:=gv.mp Z;have q:=N5 (cR (t::ts) j) (N6 ok.srt) (λr u=>ok.good _ (BE u)) (λx v=>h x (N8 Z x v)) (d7 (N9 Z) i);refine⟨[!(.lst ((cR (t::ts) j).flatten.map sD))],?_⟩;simp only[e7,az,aB,aC,ae,ac,q,ai])
 have w:(List.range n).map (λj:Nat=>kD (hT (cR (t::ts) j)))=(ua n (t::ts)).map kD:=by unfold ua;rw[gh];rfl
 rw[w,<-N7] at c;obtain⟨a,y⟩:=NB ok h i v0 ↑(.ow ((kl n (t::ts)).map λs=>D.lst (s.map sD))) ↑(.ow M) k;have b:bF ((ua n (t::ts)).map kD) ((t.1-1:Nat):Int)=↑(kD (bJ t.2)):=by
  rw[<-vR ok];exact m9 kD (BF ∅)
 have V:=FQ (ts:=ts) lo.1 lo.2;have Y:=Nz (ts:=ts) lo.1 lo.2;have d:bF ((kl n (t::ts)).map λs=>D.lst (s.map sD)) ((t.1-1:Nat):Int)=↑(.lst ((t.2++(cR ts (t.1-1)).flatten).map sD)):=m9 (λs:lu=>D.lst (s.map sD)) V;have I:=BC (t.2.map sD) ((cR ts (t.1-1)).flatten.map sD);rw[<-bw,ah] at I;have e:dV ((kl n (t::ts)).map λs=>D.lst (s.map sD)).length ((t.1-1:Nat):Int)=↑(t.1-1):=by
  rw[wf ∅ (by rw[ah,qp];lia)];congr 1
 have U:((kl n (t::ts)).map λs=>D.lst (s.map sD)).set (t.1-1) (.lst ((cR ts (t.1-1)).flatten.map sD))=(kl n ts).map λs=>D.lst (s.map sD):=by
  rw[Y,jz]
 have z:bS ((kl n (t::ts)).map λs=>D.lst (s.map sD)).length:=few (by rw[ah,qp];lia);have f:bS (M.length+1):=few ∅;have hi:gB [↥(((ua n (t::ts)).map kD).length:Int)]=↑(cG 0 n):=by
  rw[ah,show(ua n (t::ts)).length=n by simp[ua]];exact vh n ∅
 have A:((t.1-1:Nat):Int)+1=(t.1:Int):=by lia
 generalize ((ua n (t::ts)).map kD)=HL at *;generalize B:((t.1-1:Nat):Int)=pp at *;have C:cO (kD (bJ t.2)) ↥0=↑↥(t.2.length:Int):=rfl;have E:cO (kD (bJ t.2)) ↥1=↑↥(aN t.2):=rfl;have F:cO (kD (bJ t.2)) ↥2=↑↥(aQ t.2):=rfl;have g:D.tup [↥(t.1:Int),↥(t.2.length:Int),↥(aN t.2),↥(aQ t.2)]=cE t:=rfl;refine⟨⇑(.lst HL),!↥pp,a,?_⟩;simp only[v4,aE,aI,cP,j4,vz,nR,aL,kj,mI,jv,az,aC,j6,fC,pd,z8,bE,aD,jw,aF,bT,aB,gT,iL,gK,ae,af,ac,ai,av,aw,dm,z,f,dh,c,hi,y,b,C,E,F,A,g,d,I,e,U,ao,ce,show(0+1+1+1+1<=64)=True by simp]
theorem FY{n:Nat}(v:n<=1000)(v0:la):∀(ts:l0) (I:Nat) (Y Z b:la) (M:k7),ts.length<I->M.length+ts.length<=1000->aM (kl n ts) ts->(∀x∈(kl n ts).flatten,ja x)->(kl n ts).flatten.length<=14 ->
  ∃g i j k,qt vS v4 I [v0,↑(.ow ((kl n ts).map λs=>D.lst (s.map sD))),↑(.ow M),Y,Z,b]=↑(.nx,[v0,g,↑(.ow (M++ts.map cE)),i,j,k])
 |_,0,_,_,_,_,h,_,_,_,_=>by lia |ts,f+1,Y,Z,b,M,h,hM,ok,hg,hl=>by
   have c:=ud (te:=j6 0) (base:=[]) (λs:lu=>D.lst (s.map sD)) (λs:lu=>D.int (s.length:Int)) (kl n ts) λs _=>⟨_,by simp;rfl⟩;have w:=oM (λs:lu=>(s.length:Int)) (kl n ts);have z:bS ((kl n ts).map λs=>D.lst (s.map sD)).length:=few (by rw[ah,qp];lia);have d:((kl n ts).map λs:lu=>(s.length:Int)).sum=((ts.map (·.2)).flatten.length:Int):=by
    have e:∀l:lx,(l.map λs:lu=>(s.length:Int)).sum=(l.flatten.length:Int):=λl=>by
     induction l with
     |nil=>rfl |cons a l m=>rw[bq,gn,m,df,ak];lia
    rw[e,ok.perm.length_eq]
   rw[d] at w;have A:vS [v0,↑(.ow ((kl n ts).map λs=>D.lst (s.map sD))),↑(.ow M),Y,Z,b]=↑(decide (0<((ts.map (·.2)).flatten.length:Int)),[v0,↑(.ow ((kl n ts).map λs=>D.lst (s.map sD))),↑(.ow M),Y,Z,b]):=by
    unfold vS;generalize ((kl n ts).map λs=>D.lst (s.map sD))=L at *;simp[kj,mI,z,c,w]
   unfold qt;rw[A,ac];dsimp only;cases ts with
   |nil =>
     rw[b7 ⋯];exact⟨↑(.ow ((kl n []).map λs=>D.lst (s.map sD))),Y,Z,b,by rw[dm,du]⟩
   |cons t ts =>
     have y:0<t.2.length:=jl.mpr (ok.good t ⋯).ne;rw[aq (by simp[jf];lia)];obtain⟨i,j,k,V⟩:=NC ok hg hl v v0 Y Z b M (by simp at hM;lia);rw[V,ac];dsimp only;have o:=ok.tail;have lo:=ok.lo t ⋯;rw[qp] at lo;have U:(t.2++(kl n ts).flatten).Perm (kl n (t::ts)).flatten:=by
      rw[FR lo.1 lo.2];exact(vQ (vb ∅)).symm
     have p:=U.length_eq;rw[ak] at p;obtain⟨g,q,r,u,m⟩:=FY v v0 ts f i j k (M++[cE t]) (by simp at h;lia) (by simp at hM ⊢;lia) o (λx B=>hg x (U.mem_iff.mp (cw _ B))) ∅;exact⟨g,q,r,u,by rw[m];simp⟩
theorem rM(ok:aM ss ts)(U:∀x∈ss.flatten,ja x)(V:ss.flatten.length<=14)(f:ss.length<=900):rH [aG ss]=↑(.lst (ts.map cE)):=by
 have Y:=ok.len;have I:=ok.left;have c:=ud (te:=aL (jv wv (az (aB 0) (aC)))) (base:=[]) (λs:lu=>D.lst (s.map sD)) (λs:lu=>D.lst (s.map sD)) ss λs _=>⟨_,by simp;rfl⟩;have Z:bS (ss.map λs=>D.lst (s.map sD)).length:=few (by rw[ah];lia);obtain⟨a,b,d,e,h⟩:=FY (n:=ss.length) ∅ ⇑(aG ss) ts 10000 none none none [] ∅ (by simp;lia) (by rw[I];exact ok) (by rw[I];exact U) (by rw[I];exact V);rw[I,l9] at h;refine lm (e':=[!aG ss,a,!.lst (ts.map cE),b,d,e]) rfl ?_;show AO [!(.lst (ss.map λs=>D.lst (s.map sD))),none,none,none,none,none]=_;unfold vS aG at h;unfold aG;generalize (ss.map λs=>D.lst (s.map sD))=L at *;simp[AO,kj,Z,c,h]
def kq(ts:l0):ic:=(ts.map λt=>List.replicate t.2.length t.1).flatten
def iD(I:ic):k7:=I.map λn:Nat=>D.int (n:Int)
def xj(a b:l0):kq (a++b)=kq a++kq b:=by simp[kq]
def nb(t:Tn):kq [t]=List.replicate t.2.length t.1:=by simp[kq]
def FZ(ts:l0):(kq ts).length=(ts.map (·.2)).flatten.length:=by
 induction ts with
 |nil=>rfl |cons t ts ih =>
   rw[show t::ts=[t]++ts from rfl,xj,nb,ak,f7,ih];simp
def BG(d:D)(k:Nat):(List.replicate k [d]).flatten=List.replicate k d:=by simp_all
def BH(a b:ic):iD (a++b)=iD a++iD b:=by simp[iD]
def F_(k a:Nat):iD (List.replicate k a)=List.replicate k ↥(a:Int):=by simp[iD]
def wc(a:ic):(iD a).length=a.length:=by simp[iD]
theorem rN(k:Nat)(h:k<=1000000):jB (-(2 ^ 62)) (2 ^ 62) (k:Int):=⟨by lia,by lia⟩
theorem ND(ok:aM ss ts)(Y:∀x∈ss.flatten,ja x)(V:ss.flatten.length<=14)(Z:ss.length<=900):AS [aG ss]=↑(iD (kq ts)):=by
 have a:=rM ok Y V Z;have I:(kq ts).length<=14:=by rw[FZ,ok.perm.length_eq];exact V
 obtain⟨e',h1,v2,rfl⟩:=uc (i:=2) (g:=AQ) cE (λp e=>∃v2,e=[!aG ss,↑(.ow (iD (kq p))),v2]) ts
  [!aG ss,↑(.ow []),none] ⟨none,rfl⟩ (by
   rintro p t q e U ⟨v2,rfl⟩;have b:(kq p).length+t.2.length<=14:=by
    rw[U,xj,show t::q=[t]++q from rfl,xj,nb] at I;simp at I
    lia
   have c:bS (1*t.2.length):=few ∅;have d:bS ((iD (kq p)).length+(List.replicate t.2.length (D.int (t.1:Int))).length):=few (by rw[wc,f7];lia);have f:=rN t.2.length ∅;have h:iD (kq p)++List.replicate t.2.length (D.int (t.1:Int))=iD (kq (p++[t])):=by rw[xj,nb,BH,F_]
   refine⟨[!aG ss,↑(.ow (iD (kq (p++[t])))),!cE t],?_,_,rfl⟩;rw[<-h];unfold cE;simp only[AQ,bW,cM,aB,aL,iB,iy,az,aF,bT,fC,aC,ae,af,ac,ai,av,aw,Mc,Md,ao,ce,show(0+1<=64)=True by simp,dh,gl,lh,c,f,zl,BG,d])
 refine BD (e':=[!aG ss,↑(.ow (iD (kq ts))),v2]) rfl ?_;show AR [!aG ss,none,none]=_;simp[AR,a,h1]
theorem vT(ok:aM ss ts)(Z:yo [aG ss]=↑(.lst (ts.map cE)))(c:ss.flatten.length<=14):zi [aG ss]=↑(iD (kq ts)):=by
 have I:(kq ts).length<=14:=by rw[FZ,ok.perm.length_eq];exact c
 obtain⟨e',h1,v2,U,V,Y,rfl⟩:=xg (ix:=[2,3,4,5]) (g:=vu) (λt:Tn=>[D.int (t.1:Int),↥(t.2.length:Int),↥(aN t.2),↥(aQ t.2)]) (λp e=>∃v2 U V Y,e=[!aG ss,↑(.ow (iD (kq p))),v2,U,V,Y]) ts
  [!aG ss,↑(.ow []),none,none,none,none] ⟨none,none,none,none,rfl⟩ (λ_ _=>rfl) (by
   rintro p t q e a ⟨v2,U,V,Y,rfl⟩;have d:(kq p).length+t.2.length<=14:=by
    rw[a,xj,show t::q=[t]++q from rfl,xj,nb] at I;simp at I
    lia
   have f:bS (1*t.2.length):=few ∅;have h:bS ((iD (kq p)).length+(List.replicate t.2.length (D.int (t.1:Int))).length):=few (by rw[wc,f7];lia);have i:=rN t.2.length ∅;have j:iD (kq p)++List.replicate t.2.length (D.int (t.1:Int))=iD (kq (p++[t])):=by rw[xj,nb,BH,F_]
   refine⟨[!aG ss,↑(.ow (iD (kq (p++[t])))),!↥(t.1:Int),!↥(t.2.length:Int),!↥(aN t.2),!↥(aQ t.2)],?_,_,_,_,_,rfl⟩;rw[<-j];simp only[ql,vu,j4,u3,Al,iB,iy,az,aB,aC,ae,af,ac,ai,av,aw,ao,ce,show(0+1<=64)=True by simp,dh,gl,lh,f,i,zl,BG,h])
 refine BD (e':=[!aG ss,↑(.ow (iD (kq ts))),v2,U,V,Y]) rfl ?_;show AN [!aG ss,none,none,none,none,none]=_;have b:gF [2,3,4,5] vu (ts.map cE) [!aG ss,↑(.ow []),none,none,none,none]=_:=h1;simp[AN,Z,b]
structure aX (ss:lx) (os:ic):Prop where
 lo:∀a∈os,1<=a/\a<=ss.length
 cnt:∀(j:Nat) (s:lu),ss[j]?=↑s->os.count (j+1)=s.length
variable{os:ic}
def aX.perm{D:ic}(h:aX ss os)(p:os.Perm D):aX ss D :=
 ⟨λa I=>h.lo a (p.mem_iff.mpr I),λj s U=>by rw[<-p.count_eq];exact h.cnt j s U⟩
theorem Ga(m:Nat):∀n:Nat,((List.range n).map λj=>if j=m then 1 else 0).sum=if m<n then 1 else 0
 |0=>by simp |n+1=>by
   rw[jb,bw,l8,Ga m n];simp only[bq,dm,gn,List.sum_nil];by_cases h1:m<n
   ·rw[aq h1,b7 ∅,aq ∅];rfl
   ·rw[b7 h1]
    by_cases h2:n=m
    ·rw[aq h2,aq ∅];rfl
    ·rw[b7 h2,b7 ∅];rfl
theorem Gb{α:Type}(f g:α->Nat):∀l:List α,(l.map λx=>f x+g x).sum=(l.map f).sum+(l.map g).sum
 | []=>rfl |x::l=>by
   simp[gn,Gb f g l]
   lia
theorem vU(n:Nat):∀(p:ic),(∀a∈p,1<=a/\a<=n)->((List.range n).map λj=>p.count (j+1)).sum=p.length
 | [],_=>by
   have:∀l:ic,(l.map λj=>([]:ic).count (j+1)).sum=0:=λl=>by
    induction l with
    |nil=>rfl |cons a l D=>rw[bq,gn,D];rfl
   rw[this];rfl
 |a::p,h=>by
   have D:=vU n p λb U=>h b (ay _ U);have V:=h a bi;have e:(λj=>(a::p).count (j+1))=λj=>p.count (j+1)+if j=a-1 then 1 else 0:=by
    funext j;rw[List.count_cons];by_cases I:j=a-1
    ·rw[aq I,aq (by simp;lia)]
    ·rw[b7 I,b7 (by simp;lia)]
   rw[e,Gb,D,Ga,aq ∅,ao]
theorem Gc(f g:Nat->Nat):∀n:Nat,(∀j,j<n->f j<=g j)->((List.range n).map f).sum=((List.range n).map g).sum->∀j,j<n->f j=g j
 |n+1,hle,hs,j,D=>by
   have U:((List.range n).map f).sum<=((List.range n).map g).sum:=by
    have:∀l:ic,(∀j∈l,f j<=g j)->(l.map f).sum<=(l.map g).sum:=λl=>by
     induction l with
     |nil=>intro _;simp
     |cons a l ih =>
       intro h;have h1:=h a ⋯;have h2:=ih λj D=>h j (by simp[D]);simp[gn]
       lia
    exact this _ λj D=>hle j (by have:=gv.mp D;lia)
   rw[jb,bw,bw,l8,l8] at hs;simp[gn,List.sum_nil] at hs;have V:=hle n ∅;by_cases I:j=n
   ·subst I;lia
   ·exact Gc f g n (λj D=>hle j ∅) ∅ j ∅
def BI(ss:lx):((List.range ss.length).map λj=>(ss.getD j []).length).sum=ss.flatten.length:=by
 have:(List.range ss.length).map (λj=>(ss.getD j []).length)=ss.map List.length:=by
  apply ff;intro i;by_cases h:i<ss.length
  ·simp[h]
  ·simp[h]
 rw[this,kn]
def aX.len(h:aX ss os):os.length=ss.flatten.length:=by
 rw[<-vU ss.length os h.lo,<-BI];congr 1;apply qz;intro j D;have D:j<ss.length:=gv.mp D;rw[h.cnt j ss[j] (by simp[D])];simp[D]
def vV{P:List α->Prop}(D:P [])(I:∀p a,P p->P (p++[a]))(p:List α):P p:=by
 have:∀l:List α,P l.reverse:=λl=>by
  induction l with
  |nil=>exact D |cons a l ih=>rw[List.reverse_cons];exact I _ _ ih
 rw[<-List.reverse_reverse p];exact this _
def uu(ss:lx)(a c:Nat):Sk:=(ss.getD (a-1) []).getD c (0,0,0)
def tk(ss:lx)(os:ic):lu:=(List.range os.length).map λi=>uu ss (os.getD i 0) ((os.take i).count (os.getD i 0))
theorem oP(ss:lx)(p:ic)(a:Nat):tk ss (p++[a])=tk ss p++[uu ss a (p.count a)]:=by
 unfold tk;rw[ak,ft,jb,bw];congr 1
 ·apply qz
  intro i hi;have hi:i<p.length:=gv.mp hi;have D:(p++[a]).getD i 0=p.getD i 0:=by
   rw[bn,bn,bg hi]
  rw[D,iu ∅]
 ·have D:(p++[a]).getD p.length 0=a:=by simp
  simp only[bq,dm];rw[D,zo]
def yy(ss:lx)(os:ic):(tk ss os).length=os.length:=by simp[tk]
theorem aX.at{ss:lx}{p q:ic}{a:Nat}(h:aX ss (p++a::q)):∃s,ss[a-1]?=↑s/\p.count a<s.length/\s[p.count a]?=↑(uu ss a (p.count a))/\1<=a/\a<=ss.length:=by
 obtain⟨h1,h2⟩:=h.lo a ⋯;have D:a-1<ss.length:=by lia
 have U:=h.cnt (a-1) ss[a-1] (by simp[D]);rw[show a-1+1=a by lia,ul,List.count_cons_self] at U;have I:p.count a<ss[a-1].length:=by lia
 refine⟨ss[a-1],by simp[D],I,?_,h1,h2⟩;unfold uu;simp[D,I]
def aX.mem(h:aX ss os):∀(p:ic),∀(q:ic),os=p++q->∀x∈tk ss p,x∈ss.flatten:=by
 apply vV
 ·intro q _ x hx
  simp[tk] at hx
 ·intro p a U q I x hx
  rw[oP] at hx;rcases dy.mp hx with hx |hx
  ·exact U (a::q) (by rw[I];simp) x hx
  ·rw[I,cx,gm] at h
   obtain⟨s,V,Y,D,_⟩:=h.at;have e:x=uu ss a (p.count a):=by simpa using hx
   subst e;exact il.mpr ⟨s,bc V,bc D⟩
def aX.sk(h:aX ss os):∀x∈tk ss os,x∈ss.flatten:=h.mem os [] ⋯
theorem Ge(ts:l0)(j:Nat):(kq ts).count (j+1)=(cR ts j).flatten.length:=by
 induction ts with
 |nil=>simp[kq,cR] |cons t ts ih =>
   rw[show t::ts=[t]++ts from rfl,xj,nb,ul,ih];by_cases e:t.1=j+1
   ·rw[gm,m_ t ts j e,df,ak,e,List.count_replicate_self]
   ·rw[gm,rL t ts j e,List.count_replicate,b7 (by simpa using e)]
    lia
def aM.whole(ok:aM ss ts):aX ss (kq ts):=by
 refine⟨λa I=>?_,λj s U=>?_⟩
 ·obtain⟨l,V,D⟩:=il.mp I
  obtain⟨t,Y,rfl⟩:=fb.mp V;rw[List.eq_of_mem_replicate D];exact ok.lo t Y
 ·rw[Ge,ok.part j s U]
def aY(n:Nat)(f:Nat->Int):k7:=(List.range n).map λj=>D.int (f j)
def oQ(n:Nat)(f:Nat->Int):(aY n f).length=n:=by simp[aY]
def oR(n:Nat)(f:Nat->Int)(j:Nat)(h:j<n):bF (aY n f) (j:Int)=↑↥(f j):=m9 (λj:Nat=>D.int (f j)) (by simp[h])
def vW(n:Nat)(f g:Nat->Int)(j:Nat)(h:∀i,i<n->i≠j->g i=f i):(aY n f).set j ↥(g j)=aY n g:=by
 apply ff;intro i;unfold aY;rw[jh];by_cases hi:i<n
 ·by_cases e:j=i
  ·subst e;simp[hi]
  ·rw[b7 e]
   simp[hi,h i hi (Ne.symm e)]
 ·by_cases e:j=i
  ·subst e;simp[hi]
  ·rw[b7 e];simp[hi]
def Gf(n:Nat)(f:Nat->Int)(j:Nat)(h:j<n):(aY n f)[j]?=↑↥(f j):=by simp[aY,h]
def BJ(h:ds.length=ar)(D:g (lf n ds)=↑(.nx,e')):aR n ar g ds=some .non:=by
 unfold aR;rw[aq h,D]
theorem NE(V:1<=a)(Y:a<=ss.length):AU [aG ss,↥(a:Int)]=some .non:=by
 have I:decide ((a:Int)<1)=false:=by simp;lia
 have U:decide (((ss.map λs=>D.lst (s.map sD)).length:Int)<(a:Int))=false:=by rw[ah];simp;lia
 refine BJ (e':=[!aG ss,!↥(a:Int)]) rfl ?_;show AT [!aG ss,!↥(a:Int)]=_;unfold aG;generalize (ss.map λs=>D.lst (s.map sD))=L at *;simp only[AT,aZ,aO,fS,aH,aD,aB,fC,j6,fZ,dQ,ae,af,ac,ai,av,aw,I,U,cj,f8]
def bG(ss:lx)(p:ic)(j:Nat):Int:=((ss.getD j []).length:Int)-(p.count (j+1):Int)
def NF(ss:lx):(ss.map λs=>D.int (s.length:Int))=aY ss.length (bG ss []):=by
 apply ff;intro i;unfold aY bG;by_cases h:i<ss.length
 ·simp[h]
 ·simp[h]
def Gg(ss:lx):tw cA (j6 0) [] (ss.map λs=>D.lst (s.map sD))=↑(aY ss.length (bG ss [])):=by
 rw[<-NF];exact ud (te:=j6 0) (base:=[]) (λs:lu=>D.lst (s.map sD)) (λs:lu=>D.int (s.length:Int)) ss λs _=>⟨_,by simp;rfl⟩
def oS(p:ic)(a b:Nat):(p++[a]).count b=p.count b+if a=b then 1 else 0:=by
 by_cases h:a=b
 ·simp[h]
 ·simp[h]
theorem Gh(ss:lx)(p:ic)(a:Nat)(h1:1<=a):bG ss (p++[a]) (a-1)=bG ss p (a-1)-1/\∀i,i≠a-1->bG ss (p++[a]) i=bG ss p i:=by
 unfold bG;refine⟨?_,λi hi=>?_⟩
 ·rw[oS,aq ∅];lia
 ·rw[oS,b7 ∅];lia
def NG(h:aX ss os)(j:Nat)(D:j<ss.length):bG ss os j=0:=by
 unfold bG;rw[h.cnt j ss[j] (by simp[D])];simp[D]
variable{p:ic}
theorem NH(h:aX ss (p++a::q)):0<bG ss p (a-1):=by
 obtain⟨s,D,I,_,h1,h2⟩:=h.at;unfold bG;rw[show a-1+1=a by lia,bn,D];simp
 lia
def Gi(n:Nat)(f:Nat->Int):dL (aY n f)=↑((List.range n).map f):=by
 have:aY n f=((List.range n).map f).map D.int:=by unfold aY;rw[gh];rfl
 rw[this,DU]
theorem Gj(f:Nat->Int):∀n:Nat,(∀j,j<n->f j=0)->((List.range n).map f).sum=0
 |0,_=>rfl |n+1,h=>by
   rw[jb,bw,l8,Gj f n λj D=>h j ∅];simp[h n ∅]
theorem NI(h:aX ss os)(w:ss.length<=1000):AW [aG ss,.lst (iD os)]=some .non:=by
 obtain⟨e',h1,Z,rfl⟩:=uc (i:=3) (g:=v5) (λa:Nat=>D.int (a:Int)) (λp e=>∃Z,e=[!aG ss,!.lst (iD os),↑(.ow (aY ss.length (bG ss p))),Z]) os
  [!aG ss,!.lst (iD os),↑(.ow (aY ss.length (bG ss []))),none] ⟨none,rfl⟩ (by
   rintro p a q e b ⟨Z,rfl⟩;have k:aX ss (p++a::q):=by rw[<-b];exact h
   obtain⟨s,x,l,_,m,y⟩:=k.at;have z:=NH k;obtain⟨n,o⟩:=Gh ss p a m;have c:(a:Int)-1=((a-1:Nat):Int):=by lia
   have d:=oR ss.length (bG ss p) (a-1) ∅;have V:=Gf ss.length (bG ss p) (a-1) ∅;have I:=vW ss.length (bG ss p) (bG ss (p++[a])) (a-1) (λi _ hi=>o i hi);rw[n] at I;have r:decide (bG ss p (a-1)=0)=false:=by simp;lia
   have f:a-1<(aY ss.length (bG ss p)).length:=by rw[oQ];lia
   have t:(0:Int)<=((a-1:Nat):Int):=by lia
   refine⟨[!aG ss,!.lst (iD os),↑(.ow (aY ss.length (bG ss (p++[a])))),!↥(a:Int)],?_,_,rfl⟩;rw[<-I];generalize aY ss.length (bG ss p)=L at *;simp only[v5,aE,aZ,aO,y0,u0,aH,aD,aF,bT,aB,fC,bA,b_,ae,af,ac,ai,av,aw,c,d,r,cj,f8,t,dh,gl,V,f])
 have c:((List.range ss.length).map (bG ss os)).sum=0:=Gj _ _ λj u=>NG h j u;have U:=Gi ss.length (bG ss os);have l:=Gg ss;have v:bS (ss.map λs=>D.lst (s.map sD)).length:=few (by rw[ah];lia);refine BJ (e':=[!aG ss,!.lst (iD os),↑(.ow (aY ss.length (bG ss os))),Z]) rfl ?_;show AV [!aG ss,!.lst (iD os),none,none]=_;have Y:dE 3 v5 (iD os) [!aG ss,!.lst (iD os),↑(.ow (aY ss.length (bG ss []))),none]=_:=h1;unfold aG at Y ⊢;generalize iD os=O at *;generalize (ss.map λs=>D.lst (s.map sD))=L at *;simp[AV,kj,nT,v,l,Y,U,c,Int.lt_irrefl]
def NJ(h:aX ss os)(V:ss.length<=1000):AY [aG ss,.lst (iD os)]=some .non:=by
 obtain⟨e',h1,v2,rfl⟩:=uc (i:=2) (g:=v6) (λa:Nat=>D.int (a:Int)) (λp e=>∃v2,e=[!aG ss,!.lst (iD os),v2]) os
  [!aG ss,!.lst (iD os),none] ⟨none,rfl⟩ (by
   rintro p a q e I ⟨v2,rfl⟩;obtain⟨Y,Z⟩:=h.lo a (by rw[I];simp);have b:=NE (ss:=ss) Y Z;simp[v6,b])
 have h2:=NI h V;refine BJ (e':=[!aG ss,!.lst (iD os),v2]) rfl ?_;show AX [!aG ss,!.lst (iD os),none]=_;have U:dE 2 v6 (iD os) [!aG ss,!.lst (iD os),none]=_:=h1;generalize iD os=O at *;simp[AX,U,h2]
def bX(p:ic)(j:Nat):Int:=(p.count (j+1):Int)
theorem NK(p:ic)(a:Nat)(h1:1<=a):bX (p++[a]) (a-1)=bX p (a-1)+1/\∀i,i≠a-1->bX (p++[a]) i=bX p i:=by
 unfold bX;refine⟨?_,λi hi=>?_⟩
 ·rw[oS,aq ∅];lia
 ·rw[oS,b7 ∅];lia
def vX(ss:lx):tw cA [:0] [] (ss.map λs=>D.lst (s.map sD))=↑(aY ss.length (bX [])):=by
 rw[ud (te:=fC ↥0) (base:=[]) (λs:lu=>D.lst (s.map sD)) (λs:lu=>D.int 0) ss λs _=>⟨_,by simp;rfl⟩];congr 1;apply ff;intro i;unfold aY bX;by_cases h:i<ss.length
 ·simp[h]
 ·simp[h]
theorem BK(V:aX ss (p++a::q)) :
  (a:Int)-1=((a-1:Nat):Int)/\bF (aY ss.length (bX p)) ((a-1:Nat):Int)=↑↥(p.count a:Int)/\(aY ss.length (bX p))[a-1]?=↑↥(p.count a:Int) /\
    (aY ss.length (bX p)).set (a-1) ↥((p.count a:Int)+1)=aY ss.length (bX (p++[a]))/\a-1<(aY ss.length (bX p)).length/\dV (aY ss.length (bX p)).length ((a-1:Nat):Int)=↑(a-1) /\
    ∃s:lu,bF (ss.map λs=>D.lst (s.map sD)) ((a-1:Nat):Int)=↑(.lst (s.map sD))/\bF (s.map sD) (p.count a:Int)=↑(sD (uu ss a (p.count a))):=by
 obtain⟨s,Y,e,Z,b,f⟩:=V.at;obtain⟨c,d⟩:=NK p a b;have U:bX p (a-1)=(p.count a:Int):=by unfold bX;rw[show a-1+1=a by lia]
 have I:=vW ss.length (bX p) (bX (p++[a])) (a-1) (λi _ hi=>d i hi);rw[c,U] at I;refine⟨by lia,?_,?_,I,by rw[oQ];lia,?_,s,m9 (λs:lu=>D.lst (s.map sD)) Y,m9 sD Z⟩
 ·rw[oR _ _ _ ∅,U]
 ·rw[Gf _ _ _ ∅,U]
 ·rw[wf ∅ (by rw[oQ];lia)]
  congr 1
theorem rO(h:aX ss os)(m:ss.length<=1000)(l:os.length<=1000):mY [aG ss,.lst (iD os)]=↑(.lst ((tk ss os).map sD)):=by
 obtain⟨e',h1,b,rfl⟩:=uc (i:=4) (g:=v7) (λa:Nat=>D.int (a:Int)) (λp e=>∃b,e=[!aG ss,!.lst (iD os),↑(.ow (aY ss.length (bX p))),↑(.ow ((tk ss p).map sD)),b]) os
  [!aG ss,!.lst (iD os),↑(.ow (aY ss.length (bX []))),↑(.ow []),none] ⟨none,rfl⟩ (by
   rintro p a q e I ⟨b,rfl⟩;have n:aX ss (p++a::q):=by rw[<-I];exact h
   obtain⟨o,c,U,V,d,r,s,f,j⟩:=BK n;have k:bS (((tk ss p).map sD).length+1):=few (by rw[ah,yy];rw[I] at l;simp at l;lia);have t:(0:Int)<=((a-1:Nat):Int):=by lia
   have u:cO (.lst (s.map sD)) ↥(p.count a:Int)=↑(sD (uu ss a (p.count a))):=j;refine⟨[!aG ss,!.lst (iD os),↑(.ow (aY ss.length (bX (p++[a])))),↑(.ow ((tk ss (p++[a])).map sD)),!↥(a:Int)],?_,_,rfl⟩;rw[<-V,oP,bw,bq,dm];unfold aG;generalize (tk ss p).map sD=M at *;generalize s.map sD=S at *;simp only[v7,aE,j4,y0,u0,pd,z8,aD,aF,bT,aB,fC,bA,jw,ae,af,ac,ai,av,aw,o,c,f,u,k,t,dh,gl,U,d])
 have Y:=NJ h m;have v:=vX ss;have k:bS (ss.map λs=>D.lst (s.map sD)).length:=few (by rw[ah];lia);refine lm (e':=[!aG ss,!.lst (iD os),↑(.ow (aY ss.length (bX os))),!.lst ((tk ss os).map sD),b]) rfl ?_;show AZ [!aG ss,!.lst (iD os),none,none,none]=_;have Z:dE 4 v7 (iD os) [!aG ss,!.lst (iD os),↑(.ow (aY ss.length (bX []))),↑(.ow []),none]=_:=h1;unfold aG at Z Y ⊢;generalize (ss.map λs=>D.lst (s.map sD))=L at *;simp[AZ,kj,Y,k,v,Z]
theorem Gk(h:aX ss os)(t:ss.length<=1000)(j:os.length<=1000):vA [aG ss,.lst (iD os)]=↑(.lst ((tk ss os).map sD)):=by
 obtain⟨e',h1,Y,rfl⟩:=uc (i:=4) (g:=v9) (λa:Nat=>D.int (a:Int)) (λp e=>∃Y,e=[!aG ss,!.lst (iD os),↑(.ow (aY ss.length (bX p))),↑(.ow ((tk ss p).map sD)),Y]) os
  [!aG ss,!.lst (iD os),↑(.ow (aY ss.length (bX []))),↑(.ow []),none] ⟨none,rfl⟩ (by
   rintro p a q e I ⟨Y,rfl⟩;have l:aX ss (p++a::q):=by rw[<-I];exact h
   obtain⟨m,Z,k,U,n,b,s,c,d⟩:=BK l;have f:bS (((tk ss p).map sD).length+1):=few (by rw[ah,yy];rw[I] at j;simp at j;lia);have o:cO (.lst (s.map sD)) ↥(p.count a:Int)=↑(sD (uu ss a (p.count a))):=d;refine⟨[!aG ss,!.lst (iD os),↑(.ow (aY ss.length (bX (p++[a])))),↑(.ow ((tk ss (p++[a])).map sD)),!↥(a:Int)],?_,_,rfl⟩;rw[<-U,oP,bw,bq,dm];unfold aG;generalize (ss.map λs=>D.lst (s.map sD))=L at *;generalize (tk ss p).map sD=M at *;simp only[v9,aE,j4,vz,nR,pd,z8,aD,aF,bT,aB,fC,bA,jw,ae,af,ac,ai,av,aw,m,Z,c,o,f,dh,b])
 have r:=vX ss;have f:bS (ss.map λs=>D.lst (s.map sD)).length:=few (by rw[ah];lia);refine lm (e':=[!aG ss,!.lst (iD os),↑(.ow (aY ss.length (bX os))),!.lst ((tk ss os).map sD),Y]) rfl ?_;show Bj [!aG ss,!.lst (iD os),none,none,none]=_;have V:dE 4 v9 (iD os) [!aG ss,!.lst (iD os),↑(.ow (aY ss.length (bX []))),↑(.ow []),none]=_:=h1;unfold aG at V ⊢;generalize (ss.map λs=>D.lst (s.map sD))=L at *;simp[Bj,kj,f,r,V]
def q9(h:Int):List (Nat×Sk)->List ik
 | []=>[] |x::r=>[x.2.1,(x.1:Int),h,h+x.2.2.1]::q9 (h+x.2.2.1) r
def va(x:Sk)(r:lu):aN (x::r)=x.2.1+aN r:=rfl
def xf(x:Sk)(r:lu):aQ (x::r)=x.2.2+aQ r:=rfl
def Gm(x:Nat×Sk):∀(p:List (Nat×Sk)) (h:Int),q9 h (p++[x])=q9 h p++[[x.2.1,(x.1:Int),h+aN (p.map (·.2)),h+aN (p.map (·.2))+x.2.2.1]]
 | [],h=>by simp[q9,aN] |y::p,h=>by
   rw[im,q9,q9,Gm x p,bq,va];rw[<-rh];rfl
def ji(h:Int):lu->Int
 | []=>0 |x::r=>x.2.2*(h+x.2.1)+ji (h+x.2.1) r
theorem BM(x:Sk):∀(p:lu) (h:Int),ji h (p++[x])=ji h p+x.2.2*(h+aN p+x.2.1)
 | [],h=>by simp[ji,aN] |y::p,h=>by
   rw[im,ji,ji,BM x p,va,<-rh h]
   lia
def rP(x:Sk):ue [sD x]=↑↥x.2.1:=rfl
def rQ(x:Sk):yf [sD x]=↑↥x.2.2:=rfl
def xi(x:Sk):qv [sD x]=↑↥x.1:=rfl
def Gn:∀(p:List (Nat×Sk)) (h:Int),(q9 h p).length=p.length
 | [],_=>rfl |x::p,h=>by rw[q9,ao,ao,Gn p]
theorem NL(h:aX ss os)(a:ss.length<=1000)(j:os.length<=900):Bb [aG ss,.lst (iD os)]=↑(.lst ((q9 0 (os.zip (tk ss os))).map iT)):=by
 have b:=rO h a ∅;obtain⟨e',h1,I,U,V,Y,rfl,rfl⟩:=xg (ix:=[4,5]) (g:=A_) (λx:Nat×Sk=>[D.int (x.1:Int),sD x.2])
  (λp e=>∃I U V Y,e=[!aG ss,!.lst (iD os),↑(.ow ((q9 0 p).map iT)),I,U,V,Y]/\I=⇑↥(aN (p.map (·.2)))) (os.zip (tk ss os))
  [!aG ss,!.lst (iD os),↑(.ow []),!↥0,none,none,none] ⟨_,none,none,none,rfl,rfl⟩ (λ_ _=>rfl) (by
   rintro p x q e Z ⟨I,U,V,Y,rfl,rfl⟩;have c:bS (((q9 0 p).map iT).length+1):=few (by
    rw[ah,Gn];have:=congrArg List.length Z;simp[xp] at this
    lia)
   have d:iT [x.2.1,(x.1:Int),0+aN (p.map (·.2)),0+aN (p.map (·.2))+x.2.2.1]=.tup [↥x.2.1,↥(x.1:Int),↥(aN (p.map (·.2))),↥(aN (p.map (·.2))+x.2.2.1)]:=by simp[iT]
   have f:aN ((p++[x]).map (·.2))=aN (p.map (·.2))+x.2.2.1:=by rw[bw,se];simp[aN]
   rw[Gm,bw,bq,dm,d,f];generalize (q9 0 p).map iT=M at *;simp[ql,A_,rP,xi,c])
 refine lm (e':=[!aG ss,!.lst (iD os),!.lst ((q9 0 (os.zip (tk ss os))).map iT),!↥(aN ((os.zip (tk ss os)).map (·.2))),U,V,Y]) rfl ?_;show Ba [!aG ss,!.lst (iD os),none,none,none,none,none]=_;have i:mG [.lst (iD os),.lst ((tk ss os).map sD)]=↑((os.zip (tk ss os)).map λx=>D.tup [D.int (x.1:Int),sD x.2]):=by
  show ↑(fB (iD os) ((tk ss os).map sD))=_;unfold iD;rw[B8]
 simp only[Ba,aE,bW,aI,qi,aJ,iy,aC,fC,jv,e7,az,aB,ae,af,ac,ai,av,aw,ce,ib,dh,b,i,h1]
theorem Go(h:aX ss os)(U:∀x∈ss.flatten,ja x)(V:ss.length<=1000)(b:os.length<=900):v8 [aG ss,.lst (iD os)]=↑↥(ji 0 (tk ss os)):=by
 have Y:=rO h V ∅;obtain⟨e',h1,D,rfl⟩:=uc (i:=4) (g:=Bh) sD (λp e=>∃D,e=[!aG ss,!.lst (iD os),!↥(ji 0 p),!↥(aN p),D]) (tk ss os)
  [!aG ss,!.lst (iD os),!↥0,!↥0,none] ⟨none,rfl⟩ (by
   rintro p x q e I ⟨D,rfl⟩;obtain⟨_,_,_,_,c,d⟩:=U x (h.sk x (by rw[I];simp));have sm:o7 x.2.2:=qo ∅;have Z:aN (p++[x])=aN p+x.2.1:=by rw[se];simp[aN]
   have a:ji 0 (p++[x])=ji 0 p+x.2.2*(aN p+x.2.1):=by rw[BM,j2]
   rw[Z,a];simp[Bh,rP,rQ,vy sm])
 refine lm (e':=[!aG ss,!.lst (iD os),!↥(ji 0 (tk ss os)),!↥(aN (tk ss os)),D]) rfl ?_;show Bi [!aG ss,!.lst (iD os),none,none,none]=_;simp[Bi,Y,h1]
theorem Gp(ss:lx)(p:ic)(h:∀a∈p,1<=a/\a<=ss.length):((List.range ss.length).map (bG ss p)).sum=(ss.flatten.length:Int)-(p.length:Int):=by
 have e:∀(f g:Nat->Nat) (l:ic),(l.map λj=>(f j:Int)-(g j:Int)).sum=((l.map f).sum:Int)-((l.map g).sum:Int):=λf g l=>by
  induction l with
  |nil=>rfl |cons a l ih=>simp[gn,ih];lia
 rw[<-BI,<-vU ss.length p h];exact e _ _ _
theorem Gq(f:Nat->Int):∀n:Nat,0<((List.range n).map f).sum->∃j,j<n/\0<f j
 |0,h=>by simp at h |n+1,h=>by
   rw[jb,bw,l8] at h;simp only[bq,dm,gn,List.sum_nil] at h;by_cases h1:0<f n
   ·exact⟨n,by lia,h1⟩
   ·obtain⟨j,I,D⟩:=Gq f n ∅
    exact⟨j,by lia,D⟩
theorem NM(ss:lx)(hn:ss.length<=900)(hl:ss.flatten.length<=900)(Y:Int):∃os,aX ss os/\Bf [aG ss,↥Y]=↑(iD os):=by
 have f:=Gp ss [] ⋯;rw[ce] at f;have l:=Gi ss.length (bG ss []);have H:((List.range ss.length).map (bG ss [])).sum=(ss.flatten.length:Int):=by rw[f];lia
 obtain⟨e',h1,p,I,E,F,G,rfl,Z,V,m⟩:=zf (i:=4) (g:=Bc) (λk e=>∃(p:ic) (I:Int) (E F G:la),e=[!aG ss,!↥I,↑(.ow (aY ss.length (bG ss p))),↑(.ow (iD p)),E,F,G]/\p.length=k/\(∀a∈p,1<=a/\a<=ss.length)/\∀j,j<ss.length->0<=bG ss p j)
  (cG 0 ss.flatten.length) [!aG ss,!↥Y,↑(.ow (aY ss.length (bG ss []))),↑(.ow []),none,none,none]
  ⟨[],Y,none,none,none,rfl,rfl,by simp,λj U=>by unfold bG;simp⟩ (by
   rintro k d e J ⟨p,I,E,F,G,rfl,Z,V,m⟩;obtain⟨rfl,hk⟩:=mL J;have K:=Gp ss p V;obtain⟨j0,L,M⟩:=Gq (bG ss p) ss.length (by rw[K];lia);have c:=qR (tt:=aH (aD dQ (aF 1 (aB 0)) [:0])) (te:=aB 0) (base:=[!.lst (aY ss.length (bG ss p))]) (λj:Nat=>D.int (0+(j:Int))) (λj:Nat=>D.int (0+(j:Int))) (λj=>decide (0<bG ss p j)) (List.range ss.length) (λj U=>by
    have U:j<ss.length:=gv.mp U;have r:=oR ss.length (bG ss p) j U;rw[show(j:Int)=0+(j:Int) by lia] at r;refine⟨[!↥(0+(j:Int)),!.lst (aY ss.length (bG ss p))],?_,λ_=>⟨[!↥(0+(j:Int)),!.lst (aY ss.length (bG ss p))],rfl⟩⟩;simp only[aH,aD,aF,bT,aB,fC,dQ,ae,af,ac,ai,r])
   generalize n:(List.range ss.length).filter (λj=>decide (0<bG ss p j))=so at c;have aa:0<so.length:=by
    apply jl.mpr;intro z;have:j0∈so:=by rw[<-n];exact jc.mpr ⟨gv.mpr L,by simpa using M⟩
    rw[z] at this;cases this
   have X:so.length<=ss.length:=by rw[<-n];exact d7 (pq _ _) ⋯
   have ab:0<=I % (so.length:Int):=xq _ ∅;have ag:I % (so.length:Int)<(so.length:Int):=tu _ ∅;have t:(I % (so.length:Int)).toNat<so.length:=by lia
   generalize U:so[(I % (so.length:Int)).toNat]=j at *;have u:j∈so:=by rw[<-U];exact jt t
   have N:j<ss.length/\0<bG ss p j:=by
    rw[<-n] at u;obtain⟨a,b⟩:=jc.mp u;exact⟨gv.mp a,by simpa using b⟩
   have v:bF (so.map λj:Nat=>D.int (0+(j:Int))) (I % (so.length:Int))=↑↥(0+(j:Int)):=by
    rw[show I % (so.length:Int)=(((I % (so.length:Int)).toNat:Nat):Int) by lia];exact m9 (λj:Nat=>D.int (0+(j:Int))) (by rw[am t,U])
   have w:=oR ss.length (bG ss p) j N.1;have o:bF (aY ss.length (bG ss p)) (0+(j:Int))=↑↥(bG ss p j):=by rw[j2];exact w
   have x:dV (aY ss.length (bG ss p)).length (0+(j:Int))=↑j:=by
    rw[wf ∅ (by rw[oQ];lia)];congr 1
    lia
   obtain⟨O,P⟩:=Gh ss p (j+1) ∅;rw[show j+1-1=j by lia] at O P;have h:=vW ss.length (bG ss p) (bG ss (p++[j+1])) j (λi _ hi=>P i hi);rw[O] at h;have y:(so.map λj:Nat=>D.int (0+(j:Int))).all z7=true:=by simp[z7]
   have Q:iD (p++[j+1])=iD p++[↥(0+(j:Int)+1)]:=by rw[BH];simp[iD]
   have R:bS ((iD p).length+1):=few (by rw[wc];lia);have S:bS (cG 0 ss.length).length:=few (by rw[yg];lia);have q:(so.map λj:Nat=>D.int (0+(j:Int))).length=so.length:=by simp
   have hi:=vh ss.length ∅;have T:gB [↥((aY ss.length (bG ss p)).length:Int)]=↑(cG 0 ss.length):=by rw[oQ];exact hi
   have A:cG 0 ss.length=(List.range ss.length).map λj:Nat=>D.int (0+(j:Int)):=rfl;rw[<-A] at c;have B:bM ↥I ↥(so.length:Int)=↑↥(I % (so.length:Int)):=qQ ∅;have C:c_ ↥I ↥(so.length:Int)=↑↥(I / (so.length:Int)):=uA ∅ ∅;refine⟨[!aG ss,!↥(I / (so.length:Int)),↑(.ow (aY ss.length (bG ss (p++[j+1])))),↑(.ow (iD (p++[j+1]))),!↥(0+(k:Int)),!(.lst (so.map λj:Nat=>D.int (0+(j:Int)))),!↥(0+(j:Int))],?_,p++[j+1],_,_,_,_,rfl,by simp[Z],λa ha=>?_,λi hi=>?_⟩
   ·rw[<-h,Q]
    simp only[Bc,aE,aI,j4,vz,nR,aL,u6,jv,az,aC,j6,aF,bT,aD,aB,fC,pd,z8,bA,jw,bq,dm,List.getD_cons_zero,List.getD_cons_succ,u5,ae,af,ac,ai,av,aw,T,S,dh,c,y,q,B,C,v,o,x,R]
   ·rcases dy.mp ha with ha |ha
    ·exact V a ha
    ·have:a=j+1:=by simpa using ha
     lia
   ·by_cases e:i=j
    ·subst e;rw[O];lia
    ·rw[P i e];exact m i hi)
 rw[yg] at Z;have hw:aX ss p:=by
  refine⟨V,λj s U=>?_⟩;have W:=(aj.mp U).1;have:=Gc (λj=>p.count (j+1)) (λj=>(ss.getD j []).length) ss.length (λj U=>by have:=m j U;unfold bG at this;lia) (by rw[vU _ _ V,BI,Z]) j W;rw[this];simp[U]
 refine⟨p,hw,?_⟩;have hc:=Gg ss;have hf:bS (ss.map λs=>D.lst (s.map sD)).length:=few (by rw[ah];lia);have hi:gB [↥(ss.flatten.length:Int)]=↑(cG 0 ss.flatten.length):=vh _ ∅;refine BD (e':=[!aG ss,!↥I,↑(.ow (aY ss.length (bG ss p))),↑(.ow (iD p)),E,F,G]) rfl ?_;show Be [!aG ss,!↥Y,none,none,none,none,none]=_;unfold aG at h1 ⊢;simp only[Be,aE,bW,cP,nQ,kj,cV,aB,iy,aC,jv,az,nT,dm,ce,ib,ae,af,ac,ai,av,aw,hf,dh,hc,l,H,hi,h1]
def NN(l:ic)(z:Nat)(k:Nat):(l.take k++z::l.drop k).Perm (z::l):=by
 refine List.perm_middle.trans ?_;rw[List.take_append_drop]
theorem NO(ok:aM ss ts)(A:∀x∈ss.flatten,ja x)(y:ss.length<=900)(B:ss.flatten.length<=14)(I:Int):∃os,aX ss os/\Bg [aG ss,↥I]=↑(.lst (iD os)):=by
 obtain⟨os,z,j⟩:=NM ss y ∅ (I / 3);have C:=z.len;have Y:c_ ↥I ↥3=↑↥(I / 3):=uA ∅ ∅;have Z:bM ↥I ↥3=↑↥(I % 3):=qQ ∅;by_cases F:I % 3=1/\0<os.length
 ·have a:=ND ok A B y
  have c:=ok.whole;have G:=c.len;generalize kq ts=T at *;have l:bM ↥(I / 3) ↥(T.length:Int)=↑↥(I / 3 % (T.length:Int)):=qQ ∅;have J:0<=I / 3 % (T.length:Int):=xq _ ∅;have K:I / 3 % (T.length:Int)<(T.length:Int):=tu _ ∅;generalize L:(I / 3 % (T.length:Int)).toNat=k;have b:k<T.length:=by lia
  have m:I / 3 % (T.length:Int)=(k:Int):=by lia
  rw[m] at l;have n:dV (iD T).length (k:Int)=↑k:=by rw[wf ∅ (by rw[wc];lia)];congr 1
  have d:(iD T)[k]?=↑↥(T[k]:Int):=by unfold iD;simp[b]
  have o:(iD T).eraseIdx k=iD (T.eraseIdx k):=by unfold iD;rw[F8]
  have H:(T.eraseIdx k).length=T.length-1:=List.length_eraseIdx_of_lt b;have p:T.Perm (T[k]::T.eraseIdx k):=EU (by simp[b]);have q:bS (iD T).length:=few (by rw[wc];lia);generalize T.eraseIdx k=E at *;have e:c_ ↥(I / 3) ↥14=↑↥(I / 3 / 14):=uA ∅ ∅;have U:bM ↥(I / 3 / 14) ↥((E.length:Int)+1)=↑↥(I / 3 / 14 % ((E.length:Int)+1)):=qQ ∅;have M:0<=I / 3 / 14 % ((E.length:Int)+1):=xq _ ∅;have N:I / 3 / 14 % ((E.length:Int)+1)<(E.length:Int)+1:=tu _ ∅;generalize hi:(I / 3 / 14 % ((E.length:Int)+1)).toNat=i;have r:I / 3 / 14 % ((E.length:Int)+1)=(i:Int):=by lia
  rw[r] at U;have f:bS ((iD E).length+1):=few (by rw[wc];lia);refine⟨E.take i++T[k]::E.drop i,c.perm (p.trans (NN E T[k] i).symm),?_⟩;have g:(iD E).take i++D.int (T[k]:Int)::(iD E).drop i=iD (E.take i++T[k]::E.drop i):=by unfold iD;simp
  have V:(i:Int)<=((iD E).length:Int):=by rw[wc];lia
  have s:(0:Int)<=(i:Int):=by lia
  have t:((iD os).length:Int)=(os.length:Int):=by rw[wc]
  have u:((iD T).length:Int)=(T.length:Int):=by rw[wc]
  have v:((iD E).length:Int)=(E.length:Int):=by rw[wc]
  have h:decide (I % 3=1)=true:=by simp[F.1]
  have w:decide ((0:Int)<((iD os).length:Int))=true:=by rw[t];simp;lia
  refine lm (e':=[!aG ss,!↥I,!↥(I / 3),!(.lst (iD (E.take i++T[k]::E.drop i))),!↥(T[k]:Int)]) rfl ?_;show oI [!aG ss,!↥I,none,none,none]=_;rw[<-g];rw[<-u] at l;rw[<-v] at U;rw[<-o] at V f U ⊢;simp only[oI,aE,aI,bW,aZ,j4,aJ,aD,aB,fC,jv,az,aC,cZ,aH,j6,tT,zX,nS,tY,b_,dQ,jw,ae,af,ac,ai,av,aw,Y,j,Z,h,w,dh,a,l,q,n,d,e,U,s,V,f,zl,gl]
 ·refine⟨os,z,?_⟩
  refine lm (e':=[!aG ss,!↥I,!↥(I / 3),!.lst (iD os),none]) rfl ?_;show oI [!aG ss,!↥I,none,none,none]=_;by_cases h1:I % 3=1
  ·have h2:os.length=0:=by
    lia
   have h:decide (I % 3=1)=true:=by simp[h1]
   have w:decide ((0:Int)<((iD os).length:Int))=false:=by rw[wc,h2];rfl
   simp only[oI,aE,aI,bW,aZ,aO,aJ,aD,aB,fC,jv,az,aC,cZ,aH,j6,b_,dQ,ae,af,ac,ai,av,aw,Y,j,Z,h,w,dh,cj,f8]
  ·have h:decide (I % 3=1)=false:=by simp[h1]
   simp[oI,Y,j,Z,h]
theorem Gr(T:lu)(U:∀x∈T,ja x):vB [.lst (T.map sD)]=↑↥(ji 0 T):=by
 obtain⟨e',h1,D,rfl⟩:=uc (i:=3) (g:=Bm) sD (λp e=>∃D,e=[!.lst (T.map sD),!↥(aN p),!↥(ji 0 p),D]) T
  [!.lst (T.map sD),!↥0,!↥0,none] ⟨none,rfl⟩ (by
   rintro p x q e I ⟨D,rfl⟩;obtain⟨_,_,_,_,Z,a⟩:=U x (by rw[I];simp);have sm:o7 x.2.2:=qo ∅;have V:aN (p++[x])=aN p+x.2.1:=by rw[se];simp[aN]
   have Y:ji 0 (p++[x])=ji 0 p+x.2.2*(aN p+x.2.1):=by rw[BM,j2]
   rw[V,Y];generalize T.map sD=TT at *;unfold sD;simp[Bm,qS,nY,vy sm])
 refine lm (e':=[!.lst (T.map sD),!↥(aN T),!↥(ji 0 T),D]) rfl ?_;show Bo [!.lst (T.map sD),none,none,none]=_;simp[Bo,h1]
theorem Gs(ok:aM ss ts)(I:yo [aG ss]=↑(.lst (ts.map cE)))(Y:∀x∈ss.flatten,ja x)(Z:ss.length<=1000)(a:ss.flatten.length<=14):rJ [aG ss]=↑↥(ji 0 (tk ss (kq ts))):=by
 have D:=vT ok I a;have V:=ok.whole;have U:=Go V Y Z (by rw[V.len];lia);refine lm (e':=[!aG ss]) rfl ?_;show Bl [!aG ss]=_;simp[Bl,D,U]
def rR(p q:l0)(j:Nat):cR (p++q) j=cR p j++cR q j:=by unfold cR;rw[j1,bw]
def fE(p:l0)(j:Nat):Int:=((cR p j).flatten.length:Int)
theorem NP(p:l0)(t:Tn)(h1:1<=t.1):fE (p++[t]) (t.1-1)=fE p (t.1-1)+(t.2.length:Int)/\∀i,i≠t.1-1->fE (p++[t]) i=fE p i:=by
 unfold fE;refine⟨?_,λi hi=>?_⟩
 ·rw[rR,m_ t [] (t.1-1) ∅]
  simp[cR]
 ·rw[rR,rL t [] i ∅]
  simp[cR]
def bK(r:lu):D:=.lst (r.map sD)
theorem NQ(ok:aM ss ts)(A:ss.length<=1000)(B:ss.flatten.length<=14):Bq [aG ss,.lst (ts.map cE)]=↑(.lst (ts.map λt=>bK t.2)):=by
 have o:=ok.len;obtain⟨e',h1,a,b,c,d,f,rfl⟩:=xg (ix:=[4,5,6,7]) (g:=vC) (λt:Tn=>[D.int (t.1:Int),↥(t.2.length:Int),↥(aN t.2),↥(aQ t.2)])
  (λp e=>∃a b c d f,e=[!aG ss,!.lst (ts.map cE),↑(.ow (aY ss.length (fE p))),↑(.ow (p.map λt=>bK t.2)),a,b,c,d,f]) ts
  [!aG ss,!.lst (ts.map cE),↑(.ow (aY ss.length (fE []))),↑(.ow []),none,none,none,none,none] ⟨none,none,none,none,none,rfl⟩ (λ_ _=>rfl) (by
   rintro p t q e V ⟨a,b,c,d,f,rfl⟩;obtain⟨r,C⟩:=ok.lo t (by rw[V];simp);obtain⟨u,v⟩:=NP p t r;have w:(t.1:Int)-1=((t.1-1:Nat):Int):=by lia
   have h:=oR ss.length (fE p) (t.1-1) ∅;have j:dV (aY ss.length (fE p)).length ((t.1-1:Nat):Int)=↑(t.1-1):=by
    rw[wf ∅ (by rw[oQ];lia)];congr 1
   have U:=vW ss.length (fE p) (fE (p++[t])) (t.1-1) (λi _ hi=>v i hi);rw[u] at U;have Y:t.1-1<ss.length:=by lia
   have n:=ok.part (t.1-1) ss[t.1-1] (by simp[Y]);rw[V,rR,m_ t q (t.1-1) ∅,fu,df] at n;have k:bF (ss.map λs=>D.lst (s.map sD)) ((t.1-1:Nat):Int)=↑(.lst (ss[t.1-1].map sD)):=m9 (λs:lu=>D.lst (s.map sD)) (by simp[Y]);have I:=No ((cR p (t.1-1)).flatten.map sD) (t.2.map sD) ((cR q (t.1-1)).flatten.map sD);rw[<-bw,<-bw,n,ah,ah] at I;have x:fE p (t.1-1)=((cR p (t.1-1)).flatten.length:Int):=rfl;rw[<-x] at I;have y:p.length<=ts.length:=by rw[V];simp
   have l:bS ((p.map λt=>bK t.2).length+1):=few (by rw[ah];lia);rw[<-U,bw,bq,dm];unfold aG;generalize (p.map λt=>bK t.2)=M at *;have m:D.lst (t.2.map sD)=bK t.2:=rfl;simp[ql,vC,w,h,j,k,I,m,l])
 have z:tw cA [:0] [] (ss.map λs=>D.lst (s.map sD))=↑(aY ss.length (fE [])):=by
  rw[vX];congr 1
 have l:bS (ss.map λs=>D.lst (s.map sD)).length:=few (by rw[ah];lia);refine lm (e':=[!aG ss,!.lst (ts.map cE),↑(.ow (aY ss.length (fE ts))),!(.lst (ts.map λt=>bK t.2)),a,b,c,d,f]) rfl ?_;show Bp [!aG ss,!.lst (ts.map cE),none,none,none,none,none,none,none]=_;have Z:gF [4,5,6,7] vC (ts.map cE) [!aG ss,!.lst (ts.map cE),↑(.ow (aY ss.length (fE []))),↑(.ow []),none,none,none,none,none]=_:=h1;unfold aG at Z ⊢;generalize (ss.map λs=>D.lst (s.map sD))=L at *;simp[Bp,kj,l,z,Z]
def xr(r p:lu):ik:=(List.range p.length).map λi=>aQ r*aN (p.take (i+1))-aQ (p.take (i+1))*aN r
theorem NR(r p:lu)(x:Sk):xr r (p++[x])=xr r p++[aQ r*aN (p++[x])-aQ (p++[x])*aN r]:=by
 unfold xr;rw[ak,ft,jb,bw];congr 1
 ·apply qz
  intro i hi;have hi:i<p.length:=gv.mp hi;rw[iu ∅]
 ·simp
  rw[i6 ⋯]
def BN(r p:lu):(xr r p).length=p.length:=by simp[xr]
def cU(r:lu):ik:=xr r r.dropLast
theorem NS(a:k7):cutD a none ↑(-1)=a.dropLast:=by
 unfold cutD;rw[HT.sIx_none];have:HT.sIx a.length a.length ↑(-1)=a.length-1:=by
  unfold HT.sIx;dsimp only;rw[aq ∅]
  lia
 rw[this,pv];simp
theorem NT(r:lu)(b:∀x∈r,ja x)(l:r.length<=14):vD [.tup [↥(aN r),↥(aQ r)],bK r]=↑(.lst ((cU r).map D.int)):=by
 have c:=oK r b ∅;obtain⟨e',h1,Y,rfl⟩:=uc (i:=5) (g:=Br) sD (λp e=>∃Y,e=[!(.tup [↥(aN r),↥(aQ r)]),!bK r,↑(.ow ((xr r p).map D.int)),!↥(aN p),!↥(aQ p),Y]) r.dropLast
  [!(.tup [↥(aN r),↥(aQ r)]),!bK r,↑(.ow []),!↥0,!↥0,none] ⟨none,rfl⟩ (by
   rintro p x q e V ⟨Y,rfl⟩;have d:aN (p++[x])=aN p+x.2.1:=by rw[se];simp[aN]
   have f:aQ (p++[x])=aQ p+x.2.2:=by rw[t3];simp[aQ]
   have h:p.length+1<=r.length:=by
    have:=congrArg List.length V;simp at this
    lia
   have Z:∀y∈p++[x],ja y:=λy j=>b y (List.dropLast_subset r (by rw[V];rw[show p++x::q=(p++[x])++q by simp];exact fq _ j));have a:=oK (p++[x]) Z (by simp;lia);have I:=vL (aN r) (aQ r) (aN (p++[x])) (aQ (p++[x])) c.2 a.2;have k:bS (((xr r p).map D.int).length+1):=few (by rw[ah,BN];lia);rw[NR,bw,bq,dm];rw[d,f] at I ⊢;generalize (xr r p).map D.int=M at *;simp[Br,rP,rQ,I,k])
 refine lm (e':=[!(.tup [↥(aN r),↥(aQ r)]),!bK r,!.lst ((cU r).map D.int),!↥(aN r.dropLast),!↥(aQ r.dropLast),Y]) rfl ?_;show Bs [!(.tup [↥(aN r),↥(aQ r)]),!bK r,none,none,none,none]=_;have U:=NS (r.map sD);rw[<-List.map_dropLast] at U;unfold bK at h1 ⊢;unfold cU;simp only[Bs,aE,aI,bW,cP,aJ,iy,aC,fC,cV,aL,gT,iL,gK,gS,dP,aB,ae,af,ac,ai,av,aw,ce,ib,dh,U,h1]
def lB(ss:lx)(p:ic):lx:=(List.range ss.length).map λj=>(ss.getD j []).drop (p.count (j+1))
def NU(ss:lx):lB ss []=ss:=by
 unfold lB;apply ff;intro i;by_cases h:i<ss.length
 ·simp[h]
 ·simp[h]
theorem NV(V:aX ss (p++a::q)) :
  ∃r:lu,(lB ss p)[a-1]?=↑(uu ss a (p.count a)::r)/\(lB ss p).set (a-1) r=lB ss (p++[a]):=by
 obtain⟨s,Y,I,U,Z,b⟩:=V.at;have hd:s.drop (p.count a)=uu ss a (p.count a)::s.drop (p.count a+1):=by
  rw[ij I];rw[am I] at U;rw[cg U]
 have D:ss.getD (a-1) []=s:=by rw[bn,Y];rfl
 refine⟨s.drop (p.count a+1),?_,?_⟩
 ·unfold lB
  rw[b8,ko ∅,ai,D,show a-1+1=a by lia,hd]
 ·apply ff
  intro i;unfold lB;rw[jh];by_cases hi:i<ss.length
  ·by_cases e:a-1=i
   ·subst e
    simp only[ah,jg,hi,dh];rw[b8,ko hi,ai,D,oS,aq ∅,show a-1+1=a by lia]
   ·rw[b7 e,b8,b8,ko hi,ai,ai,oS,b7 ∅];rfl
  ·by_cases e:a-1=i
   ·subst e;lia
   ·rw[b7 e,de (by simp;lia),de (by simp;lia)]
def Gu{α:Type}:∀ {l:List (List α)} {j:Nat} {r:List α} {x:α},l[j]?=↑(x::r)->l.flatten.Perm (x::(l.set j r).flatten)
 |s::l,0,r,x,h=>by
   have h:s=x::r:=by simpa using h
   subst h;exact List.Perm.refl _
 |s::l,j+1,r,x,h=>by
   have D:=Gu (l:=l) (j:=j) (r:=r) (x:=x) (by simpa using h);exact(pz s D).trans List.perm_middle
def NW(U:aX ss os):∀p:ic,∀q,os=p++q->(tk ss p++(lB ss p).flatten).Perm ss.flatten:=by
 apply vV
 ·intro q _
  rw[NU];exact List.Perm.refl _
 ·intro p a V q D
  rw[cx,gm] at D;obtain⟨r,h1,h2⟩:=NV (D ▸ U);have I:=Gu h1;rw[h2] at I;rw[oP,cx];exact(pz _ I.symm).trans (V (a::q) D)
def NX(I:aX ss os):(lB ss os).flatten=[]:=by
 apply List.flatten_eq_nil_iff.mpr;intro l U;obtain⟨j,D,rfl⟩:=fb.mp U;have D:j<ss.length:=gv.mp D;rw[I.cnt j ss[j] (by simp[D])];simp[D]
def vY(D:aX ss os):(tk ss os).Perm ss.flatten:=by
 have:=NW D os [] ⋯;rw[NX D,du] at this;exact this
def Gv(D:aX ss os)(nd:(ss.flatten.map (·.1)).Nodup):((tk ss os).map (·.1)).Nodup:=((vY D).map (·.1)).nodup_iff.mpr nd
def BO{α:Type}{te:FE}{n:Nat}{base:DE0}(I:α->k7)(ψ:α->D):∀(xs:List α),(∀x∈xs,(I x).length=n)->(∀x∈xs,∃e',te (ql (List.range n) (I x) (List.replicate n none++base))=↑(ψ x,e')) ->
  mJ cA te n base (xs.map λx=>D.tup (I x))=↑(xs.map ψ)
 | [],_,_=>rfl |x::xs,hl,h=>by
   obtain⟨e',h1⟩:=h x bi;have V:=BO I ψ xs (λy U=>hl y (ay _ U)) (λy U=>h y (ay _ U));rw[bq,mJ];have Y:mD (List.range n) (.tup (I x)) (List.replicate n none++base)=↑(ql (List.range n) (I x) (List.replicate n none++base)):=by
    show(if (I x).length=(List.range n).length then ↑(ql (List.range n) (I x) (List.replicate n none++base)) else none)=_;rw[aq (by rw[hl x bi,jg])]
   simp[Y,h1,V]
def Gw{α:Type}(k:α->Int)(v:α->D):∀xs:List α,eI (xs.map λx=>D.tup [↥(k x),v x])=↑(xs.map λx=>(k x,v x))
 | []=>rfl |x::xs=>by rw[bq,eI,Gw k v xs];rfl
def Gx(k:α->Int)(v:α->D)(xs:List α)(nd:(xs.map k).Nodup):zz [.lst (xs.map λx=>D.tup [↥(k x),v x])]=↑(.dct (xs.map k) (xs.map v)):=by
 unfold zz;simp only[Gw,ac,gh];have I:((λx:Int×D=>x.1) ∘ λx=>(k x,v x))=k:=rfl;have U:((λx:Int×D=>x.2) ∘ λx=>(k x,v x))=v:=rfl;rw[I,U,aq nd]
def BP{α:Type}(k:α->Int)(v:α->D):∀(xs:List α),(xs.map k).Nodup->∀x∈xs,xz (xs.map k) (xs.map v) (k x)=↑(v x)
 |y::xs,nd,x,h=>by
   rw[bq,bq,xz];rw[bq,ci] at nd;rcases cr.mp h with rfl |h
   ·rw[aq rfl]
   ·rw[b7 (λe=>nd.1 (by rw[e];exact fb.mpr ⟨x,h,rfl⟩))]
    exact BP k v xs nd.2 x h
def bN(T:lu):D:=.dct (T.map (·.1)) ((List.range T.length).map λi:Nat=>D.int (i:Int))
def BQ(T:List α):(T.zipIdx 0).map (·.1)=T:=by simp
def Gy{β:Type}(f:Nat->β)(T:List α):(T.zipIdx 0).map (λp=>f p.2)=(List.range T.length).map f:=by
 apply ff;intro i;rw[b8,b8,kh];by_cases h:i<T.length
 ·simp[h]
 ·simp[h]
theorem Gz(T:lu)(nd:(T.map (·.1)).Nodup)(a:T.length<=1000):vF [.lst (T.map sD)]=↑(bN T):=by
 have c:=BO (te:=bE (az (e7 qv (az (aB 1) (aC))) (az (aB 0) (aC)))) (n:=2) (base:=[]) (λx:Sk×Nat=>[D.int (x.2:Nat),sD x.1]) (λx:Sk×Nat=>D.tup [↥x.1.1,↥(x.2:Nat)]) (T.zipIdx 0) (λ_ _=>rfl) (λx _=>⟨[!↥(x.2:Nat),!sD x.1],by
  simp[List.range,List.range.loop,ql,xi]⟩)
 have V:iQ 0 [.lst (T.map sD)]=↑((T.zipIdx 0).map λp=>D.tup [↥(p.2:Nat),sD p.1]):=by
  show ↑(rn 0 (T.map sD))=_;rw[oN]
 have I:(T.zipIdx 0).map (λx:Sk×Nat=>x.1.1)=T.map (·.1):=by
  have:=congrArg (List.map λx:Sk=>x.1) (BQ T);rw[gh] at this;exact this
 have Y:(T.zipIdx 0).map (λx:Sk×Nat=>D.int (x.2:Nat))=(List.range T.length).map λi:Nat=>D.int (i:Int):=Gy (λi:Nat=>D.int (i:Int)) T;have U:=Gx (λx:Sk×Nat=>x.1.1) (λx:Sk×Nat=>D.int (x.2:Nat)) (T.zipIdx 0) (by rw[I];exact nd);rw[I,Y] at U;have Z:bS ((T.zipIdx 0).map λp:Sk×Nat=>D.tup [↥(p.2:Nat),sD p.1]).length:=few (by simp;lia);refine lm (e':=[!.lst (T.map sD)]) rfl ?_;show Bu [!.lst (T.map sD)]=_;simp only[Bu,aJ,e7,az,aC,aL,nU,jv,aB,ae,ac,ai,V,Z,dh,dm,c,U,bN]
theorem G0{α:Type}[DecidableEq α]:∀(T:List α) (c:Nat),T.Nodup->∀x,x∈T.zipIdx c->x.2=c+T.idxOf x.1
 |y::T,c,nd,x,h=>by
   rw[ci] at nd;rcases cr.mp h with rfl |h
   ·simp
   ·have D:=G0 T (c+1) nd.2 x h
    have I:x.1∈T:=(List.mem_zipIdx h).2.2 ▸ jt _;rw[List.idxOf_cons];have:(y==x.1)=false:=by
     rw[beq_eq_false_iff_ne];intro e;exact nd.1 (e ▸ I)
    rw[this,D];simp only[cond_false]
    lia
def aS(T:lu)(k:Int):Int:=((T.map (·.1)).idxOf k:Nat)
variable{T:lu}{x:Sk}
def vZ(nd:(T.map (·.1)).Nodup)(I:x∈T):vt (bN T) ↥x.1=↑↥(aS T x.1):=by
 show xz (T.map (·.1)) ((List.range T.length).map λi:Nat=>D.int (i:Int)) x.1=_;have U:x.1∈T.map (·.1):=fb.mpr ⟨x,I,rfl⟩;have V:∃i,(x.1,i)∈(T.map (·.1)).zipIdx 0:=by
  obtain⟨i,hi,e⟩:=md U;exact⟨i,List.mem_zipIdx_iff_getElem?.mpr (by rw[<-e];exact am hi)⟩
 obtain⟨i,hi⟩:=V;have h1:=G0 _ 0 nd _ hi;have h2:=BP (λp:Int×Nat=>p.1) (λp:Int×Nat=>D.int (p.2:Int)) ((T.map (·.1)).zipIdx 0) (by rw[BQ];exact nd) (x.1,i) hi;rw[BQ] at h2;have Y:((T.map (·.1)).zipIdx 0).map (λp:Int×Nat=>D.int (p.2:Int))=(List.range T.length).map λi:Nat=>D.int (i:Int):=by
  rw[Gy (λi:Nat=>D.int (i:Int)) (T.map (·.1)),ah]
 rw[Y] at h2;rw[h2];unfold aS;rw[h1,lh]
def kB(x y:Sk):Int:=x.2.2*y.2.1-y.2.2*x.2.1
def eR(pos:Int->Int)(x:Sk)(q:lu):List ik:=(q.filter λy=>decide (pos y.1<pos x.1)).map λy=>[x.1,y.1,kB x y]
def NY(pos:Int->Int)(x:Sk)(p:lu)(y:Sk):eR pos x (p++[y])=eR pos x p++if pos y.1<pos x.1 then[[x.1,y.1,kB x y]] else[]:=by
 unfold eR;by_cases h:pos y.1<pos x.1
 ·simp[h]
 ·simp[h]
def G1(pos:Int->Int)(x:Sk)(q:lu):(eR pos x q).length<=q.length:=by
 unfold eR;rw[ah];exact pq _ _
def hV(pos:Int->Int)(T:lu)(n:Nat):List ik:=(List.range n).flatMap λi=>eR pos (T.getD i (0,0,0)) (T.drop (i+1))
def G2(pos:Int->Int)(T:lu)(n:Nat):hV pos T (n+1)=hV pos T n++eR pos (T.getD n (0,0,0)) (T.drop (n+1)):=by
 unfold hV;rw[jb,List.flatMap_append];simp
variable{q:lu}{p:List Hs}
def NZ(pos:Int->Int){p:lu}(h:T=p++x::q):hV pos T (p.length+1)=hV pos T p.length++eR pos x q:=by
 rw[G2,h];simp[bn]
theorem G3(pos:Int->Int)(T:lu):∀n,(hV pos T n).length<=n*T.length
 |0=>by simp[hV] |n+1=>by
   rw[G2,ak];have h1:=G3 pos T n;have h2:=G1 pos (T.getD n (0,0,0)) (T.drop (n+1));rw[fm] at h2;rw[Nat.succ_mul]
   lia
def N_(x:Sk):vE [sD x]=↑(.tup [↥x.2.1,↥x.2.2]):=by
 refine lm (e':=[!sD x]) rfl ?_;show Bt [!sD x]=_;simp[Bt,rP,rQ]
def Oa(a b:k7)(x:D):cutD (a++x::b) ↑((a.length:Int)+1) none=b:=by
 have:=BC (a++[x]) b;rw[cx,gm,ak,ft] at this;exact this
variable{S:lu}
theorem Ob{ST OR:D}(nd:(S.map (·.1)).Nodup)(d:x∈S)(j:∀y∈q,y∈S)(f:∀y∈S,ja y)(I:k7)(v:I.length<=1000)(k:q.length<=1000)(V:la)(Y U:la) :
  ∃l m,dE 7 rK (q.map sD) [!ST,!OR,!bN S,!.lst (T.map sD),↑(.ow I),V,!sD x,Y,U] =
   ↑(.nx,[!ST,!OR,!bN S,!.lst (T.map sD),↑(.ow (I++(eR (aS S) x q).map iT)),V,!sD x,l,m]):=by
 have n:o7 x.2.2:=by have:=f x d;exact qo (by unfold ja at this;lia)
 have px:=vZ nd d;obtain⟨e',h1,b,c,rfl⟩:=uc (i:=7) (g:=rK) sD (λp e=>∃Y U,e=[!ST,!OR,!bN S,!.lst (T.map sD),↑(.ow (I++(eR (aS S) x p).map iT)),V,!sD x,Y,U]) q
  [!ST,!OR,!bN S,!.lst (T.map sD),↑(.ow I),V,!sD x,Y,U] ⟨Y,U,by simp[eR]⟩ (by
   rintro p y r e Z ⟨Y,U,rfl⟩;have h:y∈S:=j y (by rw[Z];simp);have py:=vZ nd h;have o:o7 y.2.2:=by have:=f y h;exact qo (by unfold ja at this;lia)
   have s:p.length<=1000:=by have:=congrArg List.length Z;simp at this;lia
   have t:bS ((I++(eR (aS S) x p).map iT).length+1):=few (by have:=G1 (aS S) x p;simp;lia);have u:=vL x.2.1 x.2.2 y.2.1 y.2.2 n o;rw[NY,bw];by_cases a:aS S y.1<aS S x.1
   ·refine⟨[!ST,!OR,!bN S,!.lst (T.map sD),↑(.ow (I++((eR (aS S) x p).map iT++[.tup [↥x.1,↥y.1,↥(kB x y)]]))),V,!sD x,!sD y,!↥(kB x y)],?_,_,_,by rw[aq a];rfl⟩
    rw[<-cx];generalize I++(eR (aS S) x p).map iT=M at *;simp[rK,xi,px,py,ke a,N_,u,t,kB]
   ·refine⟨[!ST,!OR,!bN S,!.lst (T.map sD),↑(.ow (I++((eR (aS S) x p).map iT++[]))),V,!sD x,!sD y,U],?_,_,_,by rw[b7 a];rfl⟩
    simp[rK,xi,px,py,em a])
 exact⟨b,c,h1⟩
theorem Oc(ok:aM ss ts)(k:yo [aG ss]=↑(.lst (ts.map cE)))(Y:aX ss os)(f:F9 14 ss) :
  Bx [aG ss,.lst (iD os)]=↑(.lst ((hV (aS (tk ss os)) (tk ss (kq ts)) (tk ss (kq ts)).length).map iT)):=by
 have F:=f.many;have Z:=f.tot;have l:=rO Y ∅ (by rw[Y.len];lia);have m:=rO ok.whole ∅ (by rw[ok.whole.len];lia);have o:=vT ok k Z;have nd:=Gv Y f.nd;have u:(tk ss os).length<=14:=by rw[yy,Y.len];lia
 have s:(tk ss (kq ts)).length<=14:=by rw[yy,ok.whole.len];lia
 have V:=Gz (tk ss os) nd ∅;have U:∀y∈tk ss (kq ts),y∈tk ss os:=λy a=>(vY Y).mem_iff.mpr ((vY ok.whole).mem_iff.mp a);have v:∀y∈tk ss os,ja y:=λy a=>f.good y (Y.sk y a);generalize hT:tk ss (kq ts)=T at *;generalize G:tk ss os=S at *;obtain⟨e',h1,i,j,b,c,rfl⟩:=xg (ix:=[5,6]) (g:=Bv) (λx:Sk×Nat=>[D.int (x.2:Nat),sD x.1]) (λp e=>∃i j b c,e=[!aG ss,!.lst (iD os),!bN S,!.lst (T.map sD),↑(.ow ((hV (aS S) T p.length).map iT)),i,j,b,c]) (T.zipIdx 0)
  [!aG ss,!.lst (iD os),!bN S,!.lst (T.map sD),↑(.ow []),none,none,none,none] ⟨none,none,none,none,rfl⟩ (λ_ _=>rfl) (by
   rintro p ⟨x,n⟩ r e hpr ⟨i,j,b,c,rfl⟩;have I:T=p.map (·.1)++x::r.map (·.1):=by
    have:=congrArg (List.map (·.1)) hpr;simpa using this
   have w:n=p.length:=by
    have:(T.zipIdx 0)[p.length]?=↑(x,n):=by rw[hpr];simp
    rw[kh] at this;cases h:T[p.length]? with
    |none=>rw[h] at this;cases this
    |some y=>rw[h] at this;simp at this;lia
   subst w;have V:p.length<=14:=by have:=congrArg List.length I;simp at this;lia
   have z:(r.map (·.1)).length<=14:=by have:=congrArg List.length I;simp at this;simp;lia
   have A:(hV (aS S) T p.length).length<=1000:=by
    have:=G3 (aS S) T p.length;have:p.length*T.length<=14*14:=Nat.mul_le_mul V s
    lia
   obtain⟨B,C,h2⟩:=Ob (ST:=aG ss) (OR:=.lst (iD os)) (T:=T) (x:=x) (q:=r.map (·.1)) nd (U x (by rw[I];simp)) (λy a=>U y (by rw[I];exact cw _ (ay _ a))) v ((hV (aS S) T p.length).map iT) (by rw[ah];exact A) ∅ ⇑↥(p.length:Nat) b c;have t:hV (aS S) T (p++[(x,p.length)]).length=hV (aS S) T p.length++eR (aS S) x (r.map (·.1)):=by
    have:=NZ (aS S) I;rw[ah] at this;rw[ak,ft,this]
   have d:cutD (T.map sD) ↑((p.length:Int)+1) none=(r.map (·.1)).map sD:=by
    have:=Oa ((p.map (·.1)).map sD) ((r.map (·.1)).map sD) (sD x);rw[ah,ah] at this;rw[I,bw,bq];exact this
   rw[t,bw];refine⟨_,?_,!↥(p.length:Nat),!sD x,B,C,rfl⟩;rw[<-h2];simp[ql,Bv,d])
 rw[List.length_zipIdx] at h1;have E:iQ 0 [.lst (T.map sD)]=↑((T.zipIdx 0).map λp=>D.tup [↥(p.2:Nat),sD p.1]):=by
  show ↑(rn 0 (T.map sD))=_;rw[oN]
 refine lm (e':=[!aG ss,!.lst (iD os),!bN S,!.lst (T.map sD),!.lst ((hV (aS S) T T.length).map iT),i,j,b,c]) rfl ?_;show Bw [!aG ss,!.lst (iD os),none,none,none,none,none,none,none]=_;simp only[Bw,aE,aI,bW,qi,aJ,iy,aC,jv,e7,az,aB,aL,ae,af,ac,ai,av,aw,ce,ib,dh,l,o,m,V,E,h1]
theorem Od(f:α->Int){l l':List α}(p:l.Perm l'):(l.map f).sum=(l'.map f).sum:=by
 induction p with
 |nil=>rfl |cons x _ ih=>simp[gn,ih] |swap x y l=>simp[gn];lia
 |trans _ _ h1 h2=>rw[h1,h2]
def r3(r:ik):Int:=r.getD 2 0
def srt(r:ik):ik:=[if r.getD 0 0<=r.getD 1 0 then r.getD 0 0 else r.getD 1 0,if r.getD 0 0<=r.getD 1 0 then r.getD 1 0 else r.getD 0 0]
def Oe(l:k7):kU (lZ (D.lst l)) "list" = true:=rfl
theorem Of(h:aX ss os)(A:ss.length<=1000):B0 [.lst (iD os),aG ss]=↑(.bl true):=by
 obtain⟨e',h1,V,rfl⟩:=uc (i:=3) (g:=vG) (λa:Nat=>D.int (a:Int)) (λp e=>∃V,e=[!.lst (iD os),!aG ss,↑(.ow (aY ss.length (bX p))),V,none]) os
  [!.lst (iD os),!aG ss,↑(.ow (aY ss.length (bX []))),none,none] ⟨none,rfl⟩ (by
   rintro p a q e c ⟨V,rfl⟩;have m:aX ss (p++a::q):=by rw[<-c];exact h
   obtain⟨o,I,n,Y,r,f,s,U,t⟩:=BK m;obtain⟨_,_,_,_,B,C⟩:=m.at;have u:=vM (a:Int);have v:decide ((a:Int)<1)=false:=em ∅;have w:decide ((a:Int) > ((ss.map λs=>D.lst (s.map sD)).length:Int))=false:=em (by rw[ah];lia);refine⟨[!.lst (iD os),!aG ss,↑(.ow (aY ss.length (bX (p++[a])))),!↥(a:Int),none],?_,_,rfl⟩;rw[<-Y];unfold aG;simp only[vG,aE,aZ,aO,vz,nR,fS,dO,aH,e7,az,aC,aD,aF,bT,j6,aB,fC,bA,jw,fZ,dQ,ae,af,ac,ai,av,aw,u,v,w,o,I,U,dh,f,rj,cj,f8])
 obtain⟨E,h2,b,rfl⟩:=zf (i:=4) (g:=By) (λk e=>∃b,e=[!.lst (iD os),!aG ss,↑(.ow (aY ss.length (bX os))),V,b]) (cG 0 ss.length)
  [!.lst (iD os),!aG ss,↑(.ow (aY ss.length (bX os))),V,none] ⟨none,rfl⟩ (by
   rintro k d e hd ⟨b,rfl⟩;obtain⟨rfl,j⟩:=mL hd;have I:=oR ss.length (bX os) k j;have U:bF (ss.map λs=>D.lst (s.map sD)) (k:Int)=↑(.lst (ss[k].map sD)):=m9 (λs:lu=>D.lst (s.map sD)) (am j);have l:bX os k=(ss[k].length:Int):=by unfold bX;rw[h.cnt k ss[k] (am j)]
   have x:dM [.lst (ss[k].map sD)]=↑↥(ss[k].length:Int):=by show ↑(D.int ((ss[k].map sD).length:Nat))=_;rw[ah]
   rw[l] at I;unfold aG;simp[By,I,U,x])
 have l:=vX ss;have y:bS (ss.map λs=>D.lst (s.map sD)).length:=few (by rw[ah];lia);have z:gB [↥((ss.map λs=>D.lst (s.map sD)).length:Int)]=↑(cG 0 ss.length):=by rw[ah];exact vh _ ∅
 refine lm (e':=[!.lst (iD os),!aG ss,↑(.ow (aY ss.length (bX os))),V,b]) rfl ?_;show Bz [!.lst (iD os),!aG ss,none,none,none]=_;have Z:dE 3 vG (iD os) [!.lst (iD os),!aG ss,↑(.ow (aY ss.length (bX []))),none,none]=_:=h1;unfold aG at Z h2 ⊢;generalize (ss.map λs=>D.lst (s.map sD))=L at *;simp[Bz,kj,y,l,Z,h2,z,Oe]
def gH(f:α->Int)(l:List α):Int:=(l.map f).sum
def G4(f:α->Int):gH f []=0:=rfl
def G5(f:α->Int)(x:α)(l:List α):gH f (x::l)=f x+gH f l:=by simp[gH]
def G6(f:α->Int)(l l':List α):gH f (l++l')=gH f l+gH f l':=by simp[gH]
def PS(w C:Sk->Int)(P:Int):lu->Int
 |x::y::r=>-(P+w x)*(C y-C x-y.2.1)+PS w C (P+w x) (y::r) |_=>0
theorem G7{ss:lx}{a:Nat}{s:lu}(I:ss[a-1]?=↑s)(p:ic):∀k:Nat,p.count a+k<=s.length->tk ss (p++List.replicate k a)=tk ss p++(s.drop (p.count a)).take k
 |0,_=>by simp |k+1,h=>by
   rw[List.replicate_succ',<-cx,oP,G7 I p k ∅,cx];have D:p.count a+k<s.length:=by lia
   rw[List.take_succ];unfold uu;rw[bn,bn,I];simp[D]
theorem BR(ok:aM ss ts):tk ss (kq ts)=(ts.map (·.2)).flatten:=by
 have I:∀p:l0,∀q,ts=p++q->tk ss (kq p)=(p.map (·.2)).flatten:=by
  apply vV
  ·intro q _;rfl
  ·intro p t U q D
   rw[cx,gm] at D;have U:=U (t::q) D;obtain⟨h1,h2⟩:=ok.lo t (by rw[D];simp);have Z:ss[t.1-1]?=↑ss[t.1-1]:=am ∅;have V:=ok.part _ _ Z;rw[D,rR,m_ t q (t.1-1) ∅,fu,df] at V;have Y:=Ge p (t.1-1);rw[show t.1-1+1=t.1 by lia] at Y;rw[xj,nb,G7 Z _ _ (by rw[Y,<-V];simp),U,Y,<-V];simp
 exact I ts [] ⋯
theorem G8(l:lx):(l.map λs:lu=>(s.length:Int)).sum=(l.flatten.length:Int):=by
 induction l with
 |nil=>rfl |cons a l ih=>rw[bq,gn,ih,df,ak];lia
theorem G9(ss:lx)(V:ss.length<=1000):vH [aG ss]=↑↥(ss.flatten.length:Int):=by
 have c:=ud (te:=j6 0) (base:=[]) (λs:lu=>D.lst (s.map sD)) (λs:lu=>D.int (s.length:Int)) ss λs _=>⟨_,by simp;rfl⟩;have I:=oM (λs:lu=>(s.length:Int)) ss;have U:bS (ss.map λs=>D.lst (s.map sD)).length:=few (by rw[ah];lia);rw[G8] at I;refine lm (e':=[!aG ss]) rfl ?_;show B1 [!aG ss]=_;unfold aG;generalize (ss.map λs=>D.lst (s.map sD))=L at *;simp[B1,kj,U,c,I]
theorem Og(ss:lx)(V:∀s∈ss,s.length<=1000):B3 [aG ss]=↑↥(aQ ss.flatten):=by
 obtain⟨e',h1,v2,rfl⟩:=uc (i:=2) (g:=vI) (λs:lu=>D.lst (s.map sD)) (λp e=>∃v2,e=[!aG ss,!↥(aQ p.flatten),v2]) ss
  [!aG ss,!↥0,none] ⟨none,rfl⟩ (by
   rintro p s q e I ⟨v2,rfl⟩;have c:=ud (te:=e7 yf (az (aB 0) aC)) (base:=[]) sD (λx:Sk=>D.int x.2.2) s λx _=>⟨_,by simp[rQ];rfl⟩;have Y:=oM (λx:Sk=>x.2.2) s;have Z:bS (s.map sD).length:=few (by rw[ah];have:=V s (by rw[I];simp);lia);have a:aQ (p++[s]).flatten=aQ p.flatten+(s.map λx:Sk=>x.2.2).sum:=by rw[fu,t3];simp[aQ]
   rw[a];generalize s.map sD=L at *;simp[vI,kj,Z,c,Y])
 refine lm (e':=[!aG ss,!↥(aQ ss.flatten),v2]) rfl ?_;show B2 [!aG ss,none,none]=_;have U:dE 2 vI (ss.map λs=>D.lst (s.map sD)) [!aG ss,!↥0,none]=_:=h1;unfold aG at *;simp[B2,U]
theorem wt(h:ss[a-1]?=↑s)(I:1<=a):bF (ss.map λs=>D.lst (s.map sD)) ((a:Int)-1)=↑(.lst (s.map sD)):=by
 rw[show((a:Int)-1)=((a-1:Nat):Int) by lia];exact m9 _ h
def GA(h:ss[a-1]?=↑(x::r))(D:1<=a):vJ [aG ss,↥(a:Int)]=↑(sD x):=by
 have h1:=wt h D;have h2:bF ((x::r).map sD) (0:Int)=↑(sD x):=m9 sD (k:=0) rfl;refine lm (e':=[!aG ss,!↥(a:Int)]) rfl ?_;show B4 [!aG ss,!↥(a:Int)]=_;unfold aG;generalize (x::r).map sD=M at *;simp[B4,h1,h2]
def GB(l:List α)(k:Nat)(x:α)(h:k<l.length):l.take k++[x]++l.drop (k+1)=l.set k x:=by
 rw[List.set_eq_take_append_cons_drop,aq h];simp
def GC(l:k7)(k:Nat)(h:k<=l.length):cutD l none ↑(k:Int)=l.take k:=by
 have:=N0 (l.take k) (l.drop k);simp_all
def v_(l:k7)(k:Nat)(h:k<=l.length):cutD l ↑(k:Int) none=l.drop k:=by
 have:=BC (l.take k) (l.drop k);rwa [List.take_append_drop,fj,Nat.min_eq_left h] at this
theorem BS(s:lu)(d:1<=a)(e:a<=ss.length)(f:ss.length<=1000):oJ [aG ss,↥(a:Int),.lst (s.map sD)]=↑(aG (ss.set (a-1) s)):=by
 have g:(ss.map λs=>D.lst (s.map sD)).length=ss.length:=ah ..;have U:=GC (ss.map λs=>D.lst (s.map sD)) (a-1) ∅;have V:=v_ (ss.map λs=>D.lst (s.map sD)) a ∅;have Y:((a:Int)-1)=((a-1:Nat):Int):=by lia
 have I:=GB (ss.map λs=>D.lst (s.map sD)) (a-1) (D.lst (s.map sD)) ∅;rw[show a-1+1=a by lia] at I;have Z:bS ((((ss.map λs=>D.lst (s.map sD)).take (a-1)).length)+(0+1)):=few (by simp only[fj];lia);have b:bS (((ss.map λs=>D.lst (s.map sD)).take (a-1)++[D.lst (s.map sD)]).length+((ss.map λs=>D.lst (s.map sD)).drop a).length):=few (by simp[fj,fm];lia);have c:aG (ss.set (a-1) s)=.lst ((ss.map λs=>D.lst (s.map sD)).set (a-1) (D.lst (s.map sD))):=by unfold aG;rw[jz]
 refine lm (e':=[!aG ss,!↥(a:Int),!.lst (s.map sD)]) rfl ?_;show B5 [!aG ss,!↥(a:Int),!.lst (s.map sD)]=_;rw[c,<-I];unfold aG;generalize s.map sD=M at *;simp only[B5,aJ,aL,cM,gT,iL,gK,iy,az,aC,aB,aD,fC,bA,Y,ae,af,ac,ai,U,V,Z,b,dh,ao,ce,show(0+1<=64)=True by simp]
theorem GD(h:ss[a-1]?=↑(x::r))(D:1<=a)(I:ss.length<=1000):vK [aG ss,↥(a:Int)]=↑(aG (ss.set (a-1) r)):=by
 have h1:=wt h D;have V:=(aj.mp h).1;have c:cutD ((x::r).map sD) ↑((1:Nat):Int) none=((x::r).map sD).drop 1:=v_ _ 1 ⋯;have U:=BS (ss:=ss) r D ∅ I;refine lm (e':=[!aG ss,!↥(a:Int)]) rfl ?_;show B6 [!aG ss,!↥(a:Int)]=_;have c:cutD ((x::r).map sD) ↑(1:Int) none=r.map sD:=c;unfold aG at *;generalize (x::r).map sD=M at *;simp[B6,h1,c,U]
variable{B:la}
theorem Oh{p:lu}{B:lu}(h:B=p++b)(g:Good B):¬gt (bJ B) (bJ b):=by
 have h1:=g.beg p ⟨b,h.symm⟩;have D:aN B=aN p+aN b:=by rw[h,se]
 have I:aQ B=aQ p+aQ b:=by rw[h,t3]
 show ¬aQ b*aN B<aQ B*aN b;rw[D,I] at h1 ⊢
 lia
theorem Oi(a:Nat)(D:lx)(j:Nat):cR (D.map λb=>(a,b)) j=if a=j+1 then D else[]:=by
 unfold cR;induction D with
 |nil=>simp |cons b r ih =>
   grind
def Oj(a:Nat)(D:lx):kq (D.map λb=>(a,b))=List.replicate D.flatten.length a:=by
 unfold kq;induction D with
 |nil=>simp |cons b r ih =>
   simp_all
theorem GE(ok:aM ss ((a,x::r)::ts))(B:∀y∈ss.flatten,ja y)(l:ss.flatten.length<=14) :
  ∃tl Z,ss[a-1]?=↑(x::tl)/\1<=a/\a<=ss.length/\aM (ss.set (a-1) tl) Z/\kq Z=List.replicate r.length a++kq ts/\(Z.map (·.2)).flatten=r++(ts.map (·.2)).flatten:=by
 have lo:=ok.lo (a,x::r) ⋯;have J:=ok.good (a,x::r) ⋯;have d:=ok.sk B (a,x::r) ⋯;have m:=ok.len1 (a,x::r) ⋯;have o:=ok.left;have U:=FQ (n:=ss.length) (t:=(a,x::r)) (ts:=ts) lo.1 lo.2;rw[o] at U;obtain⟨I,V,_⟩:=FF r (λy p=>d y (by simp[p])) (by rw[ao] at m;lia);have pos:∀b∈I,0<aN b:=λb D=>vm b (λy p=>d y (ay _ (by rw[<-V.flat];exact il.mpr ⟨b,by simpa using D,p⟩))) (V.good b D).ne;have q:0<aN (x::r):=vm _ d ⋯;have C:=BA I V.desc pos;have E:∀b∈I,¬gt (bJ (x::r)) (bJ b):=by
  cases I with
  |nil=>intro b D;cases D
  |cons bl rs' =>
    have v:x::r=(x::rs'.reverse.flatten)++bl:=by rw[<-V.flat];simp
    have F:=Oh v J;intro b D;rcases cr.mp D with rfl |hb'
    ·exact F
    ·exact FJ (pos b D) (pos bl ⋯) q (λz=>zc ((gc.mp C).1 b hb') z) F
 have i:=ok.srt;obtain⟨w,A⟩:=gc.mp i;have k:∀t∈I.reverse.map (λb=>(a,b))++ts,1<=t.1/\t.1<=ss.length:=λt f=>by
  rcases dy.mp f with h |h
  ·obtain⟨b,_,rfl⟩:=fb.mp h;exact lo
  ·exact ok.lo t (by simp[h])
 have g:kl ss.length (I.reverse.map (λb=>(a,b))++ts)=ss.set (a-1) (r++(cR ts (a-1)).flatten):=by
  apply ff;intro j;by_cases Y:j<ss.length
  ·rw[vb Y,jh,rR,Oi]
   by_cases e:a-1=j
   ·subst e
    rw[aq ∅,aq rfl,aq Y,fu,V.flat]
   ·rw[b7 ∅,b7 e]
    have:=ok.part j ss[j] (by simp[Y]);rw[rL _ _ _ (by simp;lia)] at this;simp[this,Y]
  ·rw[de (by rw[qp];lia),de (by rw[d9];lia)]
 refine⟨r++(cR ts (a-1)).flatten,I.reverse.map (λb=>(a,b))++ts,U,lo.1,lo.2,?_,?_,?_⟩
 ·rw[<-g]
  refine⟨λt f=>by rw[qp];exact k t f,λt f=>?_,λj s Y=>?_,?_,BB k⟩
  ·rcases dy.mp f with h |h
   ·obtain⟨b,D,rfl⟩:=fb.mp h;exact V.good b (by simpa using D)
   ·exact ok.good t (by simp[h])
  ·have l:=(aj.mp Y).1
   rw[qp] at l;rw[vb l] at Y;exact cg Y
  ·rw[kg]
   refine⟨?_,A,λt f u G=>?_⟩
   ·rw[List.pairwise_map,List.pairwise_reverse]
    exact C.imp λh=>.inl h
   ·obtain⟨b,D,rfl⟩:=fb.mp f
    have D:b∈I:=by simpa using D
    have H:0<aN u.2:=ok.pos B u (by simp[G]);rcases w u G with z | ⟨z1,z2⟩
    ·exact .inl (Np (n:=bJ b) (c:=bJ (x::r)) (b:=bJ u.2) (pos b D) q H (E b D) z)
    ·exact .inr ⟨FJ (n:=bJ b) (c:=bJ (x::r)) (b:=bJ u.2) (pos b D) q H (E b D) z1,z2⟩
 ·rw[xj,Oj,V.flat]
 ·rw[bw,fu,gh]
  show((I.reverse.map λb=>b).flatten)++_=_;rw[List.map_id',V.flat]
def rS:FS:=aZ (fS (aH (aD fZ (aB 1) [:1])) (aH (aD dQ (aB 1) (j6 0)))) (n8 "UnknownStack" (some)) (aO)
def oU:ll->k7->k8:=cB 2 0 2 rS
def zj:ll->k7->ka:=xQ 2 0 2 rS
def BU:FS:=aE (aZ (aH (aD b_ (j6 0) [:0])) (aJ [:0]) (aO)) (aJ (aD cO (aF 0 (gS dP [:1])) [:1]))
def wh:k7->k8:=aR 1 1 BU
def BV:FS:=aZ (fS (aH (aD fZ (aB 0) [:0])) (aH (aD dQ (aB 0) [:5]))) (n8 "BadCount" ((λz=>(↑z).bind ((λz=>((vInt [:5]) z).bind ((λz=>(↑z).bind (some)))))))) (aO)
def w5:ll->k7->k8:=cB 1 0 1 BV
def w6:ll->k7->ka:=xQ 1 0 1 BV
def rT:FS:=aZ (fS (aH (aD fZ (aB 0) [:1])) (aH (aD dQ (aB 0) [:60]))) (n8 "BadHours" ((λz=>(↑z).bind ((λz=>((vInt [:60]) z).bind ((λz=>(↑z).bind (some)))))))) (aO)
def wA:ll->k7->k8:=cB 1 0 1 rT
def oV:ll->k7->ka:=xQ 1 0 1 rT
def rV:FS:=aZ (fS (aH (aD fZ (aB 0) [:0])) (aH (aD dQ (aB 0) [:100]))) (n8 "BadLoss" ((λz=>(↑z).bind ((λz=>((vInt [:100]) z).bind (some)))))) (aO)
def rW:ll->k7->k8:=cB 1 0 1 rV
def np:ll->k7->ka:=xQ 1 0 1 rV
def wB:FS:=aZ (aH (aD iK (e7 vH (az (aB 0) (aC))) [:14])) (n8 "HouseFull" ((λz=>((vInt [:14]) z).bind ((λz=>(↑z).bind (some)))))) (aO)
def wC:ll->k7->k8:=cB 1 0 1 wB
def oW:ll->k7->ka:=xQ 1 0 1 wB
def wD:FS:=aZ (aH (aD iK (j6 0) [:60])) (n8 "DeedsFull" ((λz=>((vInt [:60]) z).bind ((λz=>(↑z).bind (some)))))) (aO)
def nq:ll->k7->k8:=cB 1 0 1 wD
def yn:ll->k7->ka:=xQ 1 0 1 wD
def GF:FS:=aJ (aD jw [:1] (e7 dM (az (aL (kj (cV (aB 0)) [] (aH (aD b_ (aF 0 [:0]) (fC (.str "put")))) (aB 0))) (aC))))
def wE:k7->k8:=aR 1 1 GF
def wF:FS:=aE (eG (p9 w6 [] (az (aB 1) (aC))) (j4 (ky w5 [] (az (aB 1) (aC))))) (aE (rk 0 "House" "kept" (iy (aC))) (rk 0 "House" "states" (iy (az (bE (az (aL (kj (jv gB (az (aB 1) (aC))) [] cA (aL (iy (aC))))) (az (aL (iy (aC))) (aC)))) (aC)))))
def rX:ll->k7->ln:=dB 2 1 1 wF
def BW:ll->k7->Option (Str×ll):=xL 2 1 1 wF
def BX:FS:=aJ (aD cO (oA (.at (.ins false "House" kr)) 0 1 (-1)) [:0])
def vp:ll->k7->k8:=cB 1 1 0 BX
def Ol:ll->k7->ka:=xQ 1 1 0 BX
def BY:FS:=aJ (aD cO (oA (.at (.ins false "House" kr)) 0 1 (-1)) [:1])
def xn:ll->k7->k8:=cB 1 1 0 BY
def Om:ll->k7->ka:=xQ 1 1 0 BY
def BZ:FS:=aE (j4 (wz (.at (.ins false "House" kr)) 0 0 (aB 1))) (j4 (wz (.at (.ins false "House" kr)) 0 1 (bE (az (aB 2) (az (aB 3) (aC))))))
def wm:ll->k7->ln:=dB 4 1 3 BZ
def On:ll->k7->Option (Str×ll):=xL 4 1 3 BZ
def yi:FS:=aE (aI 4 (fK (.ins false "House" kr) 0 (ky vp [0] (aC)))) (aE (eG (p9 zj [] (az (aB 4) (az (aB 1) (aC)))) (j4 (ky oU [] (az (aB 4) (az (aB 1) (aC)))))) (aE (eG (p9 oV [] (az (aB 2) (aC))) (j4 (ky wA [] (az (aB 2) (aC))))) (aE (eG (p9 np [] (az (aB 3) (aC))) (j4 (ky rW [] (az (aB 3) (aC))))) (aE (eG (p9 oW [] (az (aB 4) (aC))) (j4 (ky wC [] (az (aB 4) (aC))))) (aE (eG (fN true (p9 yn [] (az (ur (.ins false "House" kr) 0 0) (aC)))) (j4 (dH true (ky nq [] (az (ur (.ins false "House" kr) 0 0) (aC)))))) (aE (aI 5 (dH true (e7 wE (az (ur (.ins false "House" kr) 0 0) (aC))))) (aE (aI 6 (aL (cM (aL (iy (az (bE (az (aB 5) (az (aB 2) (az (aB 3) (aC))))) (aC)))) (aF 4 (aD bA (aB 1) [:1]))))) (aE (j4 (fK (.ins false "House" kr) 0 (ni wm [0] (az (bE (az (fC (.str "put")) (az (aB 1) (az (aB 2) (az (aB 3) (aC)))))) (az (e7 oJ (az (aB 4) (az (aB 1) (az (aB 6) (aC))))) (az (fK (.ins false "House" kr) 0 (ky xn [0] (aC))) (aC))))))) (aJ (aB 5))))))))))
def rY:ll->k7->ln:=dB 7 1 3 yi
def oX:ll->k7->Option (Str×ll):=xL 7 1 3 yi
def B_:FS:=aJ (e7 wh (az (fK (.ins false "House" kr) 0 (ky xn [0] (aC))) (aC)))
def wG:ll->k7->k8:=cB 1 1 0 B_
def Oo:ll->k7->ka:=xQ 1 1 0 B_
def wH:FS:=aZ (aH (aD b_ (e7 vH (az (aB 0) (aC))) [:0])) (n8 "NothingWaits" (some)) (aO)
def wI:ll->k7->k8:=cB 1 0 1 wH
def oY:ll->k7->ka:=xQ 1 0 1 wH
def oZ:FS:=aE (aI 1 (fK (.ins false "House" kr) 0 (ky vp [0] (aC)))) (aE (eG (p9 oY [] (az (aB 1) (aC))) (j4 (ky wI [] (az (aB 1) (aC))))) (aE (eG (fN true (p9 yn [] (az (ur (.ins false "House" kr) 0 0) (aC)))) (j4 (dH true (ky nq [] (az (ur (.ins false "House" kr) 0 0) (aC)))))) (aE (aI 2 (aD cO (aL (jv zi (az (aB 1) (aC)))) [:0])) (aE (aI 3 (e7 vJ (az (aB 1) (az (aB 2) (aC))))) (aE (aI 4 (fK (.ins false "House" kr) 0 (ky wG [0] (aC)))) (aE (aI 5 (bE (az (aB 4) (az (aD jw (aB 4) (e7 ue (az (aB 3) (aC)))) (az (e7 B3 (az (aB 1) (aC))) (aC)))))) (aE (j4 (fK (.ins false "House" kr) 0 (ni wm [0] (az (bE (az (fC (.str "dry")) (aC))) (az (e7 vK (az (aB 1) (az (aB 2) (aC)))) (az (aL (cM (fK (.ins false "House" kr) 0 (ky xn [0] (aC))) (aL (iy (az (aB 5) (aC)))))) (aC))))))) (aJ (aB 3)))))))))
def rZ:ll->k7->ln:=dB 6 1 0 oZ
def o_:ll->k7->Option (Str×ll):=xL 6 1 0 oZ
def Ca:FS:=aJ (aL (jv zi (az (fK (.ins false "House" kr) 0 (ky vp [0] (aC))) (aC))))
def r_:ll->k7->k8:=cB 1 1 0 Ca
def Op:ll->k7->ka:=xQ 1 1 0 Ca
def Cb:FS:=aJ (e7 fL (az (aL (kj (cV (aB 0)) [] cA (e7 fL (az (aL (kj (cV (aB 0)) [] cA (aF 0 [:2]))) (aC))))) (aC)))
def wJ:k7->k8:=aR 1 1 Cb
def wK:FS:=aI 1 (aL (cM (aB 1) (aL (iB (iy (az (aB 4) (aC))) (aD bA (aB 3) (aB 2))))))
def Cc:FS:=aE (aI 1 (aL (iy (aC)))) (aE (qi [2,3,4] (cV (aB 0)) (wK)) (aJ (aB 1)))
def Cd:k7->k8:=aR 5 1 Cc
def sf:FS:=aZ (aH (aD fZ (aD vt (aB 2) (e7 qv (az (aB 5) (aC)))) (aD vt (aB 2) (e7 qv (az (aB 4) (aC)))))) (aI 3 (aD jw (aB 3) (aD cN (e7 ue (az (aB 4) (aC))) (e7 ue (az (aB 5) (aC)))))) (aO)
def Ce:FS:=cP 5 (cV (aB 1)) (sf)
def Cf:FS:=aE (aI 3 [:0]) (aE (cP 4 (cV (aB 0)) (Ce)) (aJ (aB 3)))
def Cg:k7->k8:=aR 6 3 Cf
def si:FS:=aE (aI 7 (aF 1 (aB 6))) (aE (aI 8 (aD cN (e7 zh (az (aF 0 (aB 4)) (az (aF 0 (aB 6)) (aC)))) (e7 Cg (az (aB 5) (az (aB 7) (az (aB 2) (aC))))))) (aZ (aH (aD dQ (aB 8) [:0])) (aE (aI 9 (aD cN (aD cO (aF 0 (aB 4)) [:0]) (aD cO (aF 0 (aB 6)) [:0]))) (j4 (pd 3 (bE (az (fC (.str "turned")) (az (e7 qv (az (aF 5 [:0]) (aC))) (az (e7 qv (az (aF 7 [:0]) (aC))) (az (aB 8) (az (aB 9) (aC)))))))))) (aO)))
def Ch:FS:=cP 6 (jv nO (az (aD jw (aB 4) [:1]) (az (j6 1) (aC)))) (si)
def GG:FS:=aE (bW 3 (iy (aC))) (aE (qi [4,5] (jv (iQ 0) (az (aB 1) (aC))) (Ch)) (aJ (aB 3)))
def Ci:k7->k8:=aR 10 3 GG
def Cj:FS:=aJ (e7 zz (az (aL (nU 4 (cV (aB 0)) [] cA (bE (az (aB 0) (az (bE (az (aB 2) (az (aB 3) (aC)))) (aC)))))) (aC)))
def Ck:k7->k8:=aR 1 1 Cj
def wL:FS:=aE (aI 8 (e7 qv (az (aF 5 (aB 6)) (aC)))) (aE (aI 9 (e7 qv (az (aF 5 (aD jw (aB 6) [:1])) (aC)))) (aE (aI 10 (aD cN (aB 7) (aD bA (aD cO (aD vt (aB 2) (aB 9)) [:0]) (aD cO (aD vt (aB 2) (aB 8)) [:1])))) (aZ (aH (aD dQ (aB 10) [:0])) (j4 (pd 3 (bE (az (fC (.str "parted")) (az (aB 8) (az (aB 9) (az (aB 10) (az (aF 4 [:0]) (aC))))))))) (aO))))
def wM:FS:=qi [6,7] (jv (iQ 0) (az (e7 vD (az (aB 4) (az (aB 5) (aC)))) (aC))) (wL)
def GH:FS:=aE (bW 3 (iy (aC))) (aE (qi [4,5] (jv mG (az (aB 0) (az (aB 1) (aC)))) (wM)) (aJ (aB 3)))
def Co:k7->k8:=aR 11 3 GH
def GI:FS:=aE (aI 2 (e7 Bb (az (aB 0) (az (aB 1) (aC))))) (aE (aI 3 (e7 vF (az (e7 mY (az (aB 0) (az (aB 1) (aC)))) (aC)))) (aE (aI 4 (e7 yo (az (aB 0) (aC)))) (aE (aI 5 (e7 Bq (az (aB 0) (az (aB 4) (aC))))) (aE (aI 6 (aL (kj (cV (aB 4)) [] cA (e7 yj (az (aB 0) (aC)))))) (aJ (aL (cM (e7 Ci (az (aB 6) (az (aB 5) (az (aB 3) (aC))))) (e7 Co (az (aB 6) (az (aB 5) (az (e7 Ck (az (aB 2) (aC))) (aC))))))))))))
def Cp:k7->k8:=aR 7 2 GI
def Cq:FS:=aE (aI 2 (fK (.ins false "House" kr) 0 (ky vp [0] (aC)))) (aE (aI 3 (aD bA (e7 v8 (az (aB 2) (az (aB 1) (aC)))) (e7 rJ (az (aB 2) (aC))))) (aJ (bE (az (aB 3) (az (e7 Bx (az (aB 2) (az (aB 1) (aC)))) (az (e7 Cp (az (aB 2) (az (aB 1) (aC)))) (aC)))))))
def sr:ll->k7->k8:=cB 4 1 1 Cq
def Oq:ll->k7->ka:=xQ 4 1 1 Cq
def GJ:FS:=aJ (aD cO (aL (iy (az [:5] (az [:3] (az [:2] (az [:4] (az [:1] (az [:5] (az [:0] (az [:4] (az [:3] (az [:5] (az [:2] (az [:4] (aC))))))))))))))) (aD bM (aB 0) [:12]))
def wN:k7->k8:=aR 1 1 GJ
def Cr:FS:=aJ (e7 rJ (az (fK (.ins false "House" kr) 0 (ky vp [0] (aC))) (aC)))
def pa:ll->k7->k8:=cB 1 1 0 Cr
def Os:ll->k7->ka:=xQ 1 1 0 Cr
def GK:FS:=aE (aI 2 (j6 1)) (aE (aI 3 (aL (iy (az (fC (.str "put")) (az (fC (.str "put")) (az (fC (.str "tell")) (az (fC (.str "dry")) (az (fC (.str "put")) (az (fC (.str "go")) (az (fC (.str "put")) (az (fC (.str "put")) (az (fC (.str "back")) (az (fC (.str "tell")) (az (fC (.str "put")) (az (fC (.str "dry")) (aC)))))))))))))))) (aE (aI 4 (aF 3 (aD bM (aB 0) [:12]))) (aE (aI 5 (aD bM (aD c_ (aB 0) [:12]) [:16])) (aE (aI 6 (aD c_ (aB 0) [:192])) (aE (aI 7 (aD jw [:1] (aD bM (aB 6) (e7 jU (az (aB 2) (az [:1] (aC))))))) (aE (aI 6 (aD c_ (aB 6) [:5])) (aE (aZ (fS (aH (aD b_ (aB 5) [:5])) (aH (aD b_ (aB 2) [:0]))) (aI 7 (aD cO (aL (iy (az [:0] (az (aD jw (aB 2) [:1]) (az (gS dP [:1]) (az (aD hF [:10] [:12]) (aC))))))) (aD bM (aB 6) [:4]))) (aO)) (aE (aI 8 (aD jw [:1] (aD bM (aB 6) [:60]))) (aE (aZ (aH (aD b_ (aB 5) [:6])) (aI 8 (aD cO (aL (iy (az [:0] (az [:61] (az (gS dP [:1]) (az (aD hF [:10] [:12]) (aC))))))) (aD bM (aB 6) [:4]))) (aO)) (aE (aI 9 (aD bM (aD c_ (aB 6) [:60]) [:101])) (aE (aZ (aH (aD dQ (aB 5) [:9])) (aE (aI 8 (aD jw [:1] (aD bM (aB 8) [:3]))) (aI 9 (aD bM (aB 9) [:4]))) (aO)) (aE (aZ (aH (aD b_ (aB 5) [:7])) (aI 9 (aD cO (aL (iy (az (gS dP [:1]) (az [:101] (az (gS dP (aD hF [:10] [:12])) (az (aD hF [:10] [:12]) (aC))))))) (aD bM (aD c_ (aB 6) [:60]) [:4]))) (aO)) (aE (aI 10 [:0]) (aE (aZ (cZ (aH (aD tH [:1] (aB 7))) (aH (aD tH (aB 7) (aB 2)))) (aI 10 (e7 dM (az (aF 1 (aD bA (aB 7) [:1])) (aC)))) (aO)) (aE (aI 11 (aD jw [:1] (aD bM (aD c_ (aB 6) [:6060]) (e7 jU (az (aB 10) (az [:1] (aC))))))) (aE (aZ (aH (aD b_ (aB 5) [:8])) (aI 11 (aD cO (aL (iy (az [:0] (az (aD jw (aB 10) [:1]) (az (gS dP [:1]) (az (aD hF [:10] [:12]) (aC))))))) (aD bM (aD c_ (aB 6) [:6060]) [:4]))) (aO)) (aE (aZ (aH (aD b_ (aB 4) (fC (.str "put")))) (aJ (bE (az (fC (.str "put")) (az (aB 7) (az (aB 8) (az (aB 9) (aC))))))) (aO)) (aE (aZ (aH (aD b_ (aB 4) (fC (.str "tell")))) (aJ (bE (az (fC (.str "tell")) (az (aB 7) (az (aB 11) (az (aB 9) (aC))))))) (aO)) (aE (aZ (aH (aD b_ (aB 4) (fC (.str "go")))) (aJ (bE (az (fC (.str "go")) (az (aB 7) (aC))))) (aO)) (aJ (bE (az (aB 4) (aC)))))))))))))))))))))))
def sx:k7->k8:=aR 12 2 GK
def GL:FS:=aE (aI 3 (aF 2 [:0])) (aE (aZ (aH (aD b_ (aB 3) (fC (.str "back")))) (aJ (aD cO (aL (iy (az (fC (.str "")) (az (fC (.str "nothing done")) (aC))))) (e7 jT (az (aD b_ (aB 1) [:0]) (aC))))) (aO)) (aE (aZ (aH (aD b_ (aB 3) (fC (.str "dry")))) (aZ (aH (aD b_ (e7 fL (az (aL (kj (cV (aB 0)) [] cA (j6 0))) (aC))) [:0])) (aJ (fC (.str "nothing waits"))) (aO)) (aZ (fS (aH (aD fZ (aF 2 [:1]) [:1])) (aH (aD dQ (aF 2 [:1]) (j6 0)))) (aJ (fC (.str "unknown stack"))) (aZ (cZ (aH (aD jS (aB 3) (fC (.str "put")))) (aH (aD b_ (e7 dM (az (aF 0 (aD bA (aF 2 [:1]) [:1])) (aC))) [:0]))) (aJ (fC (.str "empty stack"))) (aO)))) (aE (aZ (cZ (aH (aD b_ (aB 3) (fC (.str "tell")))) (fS (aH (aD fZ (aF 2 [:2]) [:1])) (aH (aD dQ (aF 2 [:2]) (e7 dM (az (aF 0 (aD bA (aF 2 [:1]) [:1])) (aC))))))) (aJ (fC (.str "unknown place"))) (aO)) (aE (aZ (cZ (aH (aD b_ (aB 3) (fC (.str "put")))) (fS (aH (aD fZ (aF 2 [:2]) [:1])) (aH (aD dQ (aF 2 [:2]) [:60])))) (aJ (fC (.str "bad hours"))) (aO)) (aE (aZ (cZ (fS (aH (aD b_ (aB 3) (fC (.str "put")))) (aH (aD b_ (aB 3) (fC (.str "tell"))))) (fS (aH (aD fZ (aF 2 [:3]) [:0])) (aH (aD dQ (aF 2 [:3]) [:100])))) (aJ (fC (.str "bad loss"))) (aO)) (aE (aZ (cZ (aH (aD b_ (aB 3) (fC (.str "put")))) (aH (aD iK (e7 fL (az (aL (kj (cV (aB 0)) [] cA (j6 0))) (aC))) [:14]))) (aJ (fC (.str "house full"))) (aO)) (aE (aZ (aH (aD iK (aB 1) [:60])) (aJ (fC (.str "deeds full"))) (aO)) (aJ (fC (.str ""))))))))))
def sy:k7->k8:=aR 4 3 GL
def ye:FS:=aE (qI 3 (qK (cV (aB 0)) [] (jv wv (az (aB 0) (aC))))) (aE (aI 4 [:0]) (aE (aZ (aH (aD dQ (j6 1) [:1])) (aI 4 (aD bA (aF 1 [:1]) [:1])) (aO)) (aE (aZ (aH (aD b_ (aF 1 [:0]) (fC (.str "put")))) (aE (yt 3 (aB 4) (xu false (cM (aL (iy (az (bE (az (aB 2) (az (aF 1 [:2]) (az (aF 1 [:3]) (aC))))) (aC)))) (aF 3 (aB 4))))) (aJ (aL (iy (az (aB 3) (az (aB 2) (aC))))))) (aO)) (aE (aZ (aH (aD b_ (aF 1 [:0]) (fC (.str "tell")))) (aE (aI 5 (dH false (aD cO (aF 3 (aB 4)) (aD bA (aF 1 [:2]) [:1])))) (aE (uS 3 (aB 4) (aD bA (aF 1 [:2]) [:1]) (bE (az (aF 5 [:0]) (az (aF 5 [:1]) (az (aF 1 [:3]) (aC)))))) (aJ (aL (iy (az (aB 3) (az (aF 5 [:2]) (aC)))))))) (aO)) (aE (aZ (aH (aD b_ (aF 1 [:0]) (fC (.str "dry")))) (aI 4 (aD bA (aD cO (aD cO (e7 rH (az (aB 0) (aC))) [:0]) [:0]) [:1])) (aO)) (aE (aI 5 (dH false (aD cO (aF 3 (aB 4)) [:0]))) (aE (yt 3 (aB 4) (xu false (gT (aF 3 (aB 4)) (gK [:1]) (iL)))) (aJ (aL (iy (az (aB 3) (az (aB 5) (aC)))))))))))))
def xl:k7->k8:=aR 6 3 ye
def Cs:FS:=aE (aZ (aH (fM "tuple" (aB 1))) (aJ (e7 rC (az (aB 0) (az (aB 1) (aC))))) (aO)) (aJ (yv (e7 yk (az (aB 0) (aC))) (aD b_ (aB 0) (aB 1))))
def pb:k7->k8:=aR 2 2 Cs
def Ct:FS:=uN (k_ (rd (aL (kj (jv gB (az (aB 0) (aC))) [] cA (aL (iy (aC))))) (ri (iy (aC)) (ri (iy (aC)) (rd (aL (iy (aC))) (mU))))))
def wO:k7->Option Ag:=jE 1 1 Ct
def Ot:k7->ka:=xG 1 1 Ct
def wP:FS:=aE (j4 (pd 1 (aB 2))) (aZ (aH (aD b_ (aD bM (aD c_ (aB 2) [:12]) [:4]) [:1])) (aE (j4 (pd 1 (aB 2))) (j4 (pd 1 (aB 2)))) (aO))
def GM:FS:=aE (bW 1 (iy (aC))) (aE (cP 2 (cV (aB 0)) (wP)) (aJ (aB 1)))
def Cu:k7->k8:=aR 3 1 GM
def wQ:FS:=aZ (aH (aD b_ (e7 dM (az (aF 0 (aD bA (aB 1) [:1])) (aC))) [:0])) (n8 "EmptyStack" ((λz=>(↑z).bind ((λz=>((vInt (aB 1)) z).bind (some)))))) (aO)
def s0:ll->k7->k8:=cB 2 0 2 wQ
def nu:ll->k7->ka:=xQ 2 0 2 wQ
def nw:FS:=aE (aI 2 (fK (.ins false "House" kr) 0 (ky vp [0] (aC)))) (aE (eG (p9 zj [] (az (aB 2) (az (aB 1) (aC)))) (j4 (ky oU [] (az (aB 2) (az (aB 1) (aC)))))) (aE (eG (p9 nu [] (az (aB 2) (az (aB 1) (aC)))) (j4 (ky s0 [] (az (aB 2) (az (aB 1) (aC)))))) (aE (eG (fN true (p9 yn [] (az (ur (.ins false "House" kr) 0 0) (aC)))) (j4 (dH true (ky nq [] (az (ur (.ins false "House" kr) 0 0) (aC)))))) (aE (j4 (fK (.ins false "House" kr) 0 (ni wm [0] (az (bE (az (fC (.str "go")) (az (aB 1) (aC)))) (az (e7 vK (az (aB 2) (az (aB 1) (aC)))) (az (fK (.ins false "House" kr) 0 (ky xn [0] (aC))) (aC))))))) (aJ (e7 vJ (az (aB 2) (az (aB 1) (aC)))))))))
def sA:ll->k7->ln:=dB 3 1 1 nw
def pc:ll->k7->Option (Str×ll):=xL 3 1 1 nw
def sB:FS:=aZ (fS (aH (aD fZ (aB 1) [:1])) (aH (aD dQ (aB 1) (j6 0)))) (n8 "UnknownPlace" (some)) (aO)
def wR:ll->k7->k8:=cB 2 0 2 sB
def pu:ll->k7->ka:=xQ 2 0 2 sB
def Ou:FS:=aJ (bE (az (e7 qv (az (aB 0) (aC))) (az (e7 ue (az (aB 0) (aC))) (az (aB 1) (aC)))))
def Cv:k7->k8:=aR 2 2 Ou
def xm:FS:=aE (aI 4 (fK (.ins false "House" kr) 0 (ky vp [0] (aC)))) (aE (eG (p9 zj [] (az (aB 4) (az (aB 1) (aC)))) (j4 (ky oU [] (az (aB 4) (az (aB 1) (aC)))))) (aE (eG (p9 nu [] (az (aB 4) (az (aB 1) (aC)))) (j4 (ky s0 [] (az (aB 4) (az (aB 1) (aC)))))) (aE (aI 5 (aF 4 (aD bA (aB 1) [:1]))) (aE (eG (p9 pu [] (az (aB 5) (az (aB 2) (aC)))) (j4 (ky wR [] (az (aB 5) (az (aB 2) (aC)))))) (aE (eG (p9 np [] (az (aB 3) (aC))) (j4 (ky rW [] (az (aB 3) (aC))))) (aE (eG (fN true (p9 yn [] (az (ur (.ins false "House" kr) 0 0) (aC)))) (j4 (dH true (ky nq [] (az (ur (.ins false "House" kr) 0 0) (aC)))))) (aE (aI 6 (aF 5 (aD bA (aB 2) [:1]))) (aE (aI 7 (aL (cM (aL (cM (aL (gT (aB 5) (iL) (gK (aD bA (aB 2) [:1])))) (aL (iy (az (e7 Cv (az (aB 6) (az (aB 3) (aC)))) (aC)))))) (aL (gT (aB 5) (gK (aB 2)) (iL)))))) (aE (j4 (fK (.ins false "House" kr) 0 (ni wm [0] (az (bE (az (fC (.str "tell")) (az (aB 1) (az (aB 2) (az (aB 3) (aC)))))) (az (e7 oJ (az (aB 4) (az (aB 1) (az (aB 7) (aC))))) (az (fK (.ins false "House" kr) 0 (ky xn [0] (aC))) (aC))))))) (aJ (e7 yf (az (aB 6) (aC)))))))))))))
def sC:ll->k7->ln:=dB 8 1 3 xm
def pw:ll->k7->Option (Str×ll):=xL 8 1 3 xm
inductive eT where
 |put (a h l:Int) |tell (a p l:Int) |go (a:Int) |dry
abbrev l1:=List eT
def dD:eT->D
 | .put a h l=>.tup [.str "put",↥a,↥h,↥l]
 | .tell a p l=>.tup [.str "tell",↥a,↥p,↥l]
 | .go a=>.tup [.str "go",↥a] | .dry=>.tup [.str "dry"]
def eT.isPut:eT->Bool | .put ..=>true |_=>false
abbrev wS:=Int×Int×Int
abbrev l2:=List wS
abbrev Hs:=lx×l2
abbrev mu:=List Hs
def bV(sp:l2):D:=.lst (sp.map sD)
def dC(s:Hs):D:=.tup [aG s.1,bV s.2]
abbrev kH:AK:=.ins false "House" kr
def hP(k:l1)(s:mu):k9:=[.o (k.map dD),.o (s.map dC)]
abbrev hA(k:l1)(s:mu):Ag:=(kH,hP k s)
variable{e:DE0}{κ:AK}{l:Option Nat}{ps:k9}
def GN(h:e[i]?=↑↑(.ag κ l ps))(D:ps[j]?=↑(.o ds)):oa (.at κ) i j e=↑ds:=by
 unfold oa cX;rw[aq (show Acc.ok (.at κ) e i j from(show kK κ e i from .inl ⟨_,_,h⟩)),h];dsimp;rw[D]
def GO(h:e[i]?=↑↑(.ro κ ps))(D:ps[j]?=↑(.o ds)):oa (.at κ) i j e=↑ds:=by
 unfold oa cX;rw[aq (show Acc.ok (.at κ) e i j from(show kK κ e i from .inr ⟨_,h⟩)),h];dsimp;rw[D]
variable{f:FE}
def wT(h:e[i]?=↑↑(.ag κ l ps)):fK κ i f e=f e:=aq (.inl ⟨_,_,h⟩)
def Cw(h:e[i]?=↑↑(.ro κ ps)):fK κ i f e=f e:=aq (.inr ⟨_,h⟩)
def GP{f:XF}(h:e[i]?=↑↑(.ag κ l ps)):xK κ i f e=f e:=aq (.inl ⟨_,_,h⟩)
variable{r:k7×DE0}{m:ll->k7->k8}{F:FA}
def GQ(h:e[i]?=↑↑(.ro κ ps))(D:F e=↑r)(h2:r.2[i]?=↑↑(.ro κ ps)):ky m [i] F e=(m [(κ,ps)] r.1).map λd=>(d,r.2):=by
 unfold ky;rw[aq (show fD e [i] from λk I=>by rw[d6.mp I];exact⟨_,h⟩),D];simp[eQ,h2]
def GR(h:e[i]?=↑↑(.ag κ l ps))(D:F e=↑r)(h2:r.2[i]?=↑↑(.ag κ l ps)):ky m [i] F e=(m [(κ,ps)] r.1).map λd=>(d,r.2):=by
 unfold ky;rw[aq (show fD e [i] from λk I=>by rw[d6.mp I];exact⟨_,h⟩),D];simp[eQ,h2]
def qm:ky m [] F e=(F e).bind λr=>(m [] r.1).map λd=>(d,r.2):=by
 unfold ky;rw[aq (show fD e [] from λk D=>nomatch D)];rfl
variable{x:ll->k7->Option (Str×ll)}
def qc{x:ll->k7->ka}:p9 x [] F e=(F e).bind λr=>(x [] r.1).map λd=>(d,r.2):=by
 unfold p9;rw[aq (show fD e [] from λk I=>nomatch I)];rfl
variable{d:D}{ps':k9}
def Ov{m:ll->k7->ln}(h:e[i]?=↑↑(.ag κ l ps))(I:F e=↑r)(h2:r.2[i]?=↑↑(.ag κ l ps))(U:m [(κ,ps)] r.1=↑(d,[(κ,ps')])):ni m [i] F e=↑(d,r.2.set i ↑(.ag κ l ps')):=by
 unfold ni;rw[aq (show fD e [i] from λk V=>by rw[d6.mp V];exact⟨_,h⟩),I];simp[dY,h2,U,dJ]
def Ox(h:e[i]?=↑↑(.ag κ l ps))(D:F e=↑r)(h2:r.2[i]?=↑↑(.ag κ l ps)){d:Str}(I:x [(κ,ps)] r.1=↑(d,[(κ,ps')])):qk x [i] F e=↑(d,r.2.set i ↑(.ag κ l ps')):=by
 unfold qk;rw[aq (show fD e [i] from λk U=>by rw[d6.mp U];exact⟨_,h⟩),D];simp[dY,h2,I,dJ]
def Oy(h:e[i]?=↑↑(.ag κ l ps))(D:F e=↑r)(h2:r.2[i]?=↑↑(.ag κ l ps))(I:x [(κ,ps)] r.1=none):qk x [i] F e=none:=by
 unfold qk;rw[aq (show fD e [i] from λk U=>by rw[d6.mp U];exact⟨_,h⟩),D];simp only[dY,h2,ai,ac,I];rfl
theorem Cy(xs:k7)(x:D):bF (xs++[x]) (-1)=↑x:=by
 unfold bF dV;rw[b7 (by decide),aq (by simp;lia),show(-1+((xs++[x]).length:Int)).toNat=xs.length by simp;lia];simp
variable{k:l1}{s:Hs}
def wj:vp [hA k (p++[s])] []=↑(aG s.1):=by
 unfold vp cB;have h:oa (.at kH) 0 1 (nc 1 [hA k (p++[s])] [])=↑((p++[s]).map dC):=GO (ps:=hP k (p++[s])) rfl rfl;simp[BX,oA,h,Cy,dC];rfl
def sE:xn [hA k (p++[s])] []=↑(bV s.2):=by
 unfold xn cB;have h:oa (.at kH) 0 1 (nc 1 [hA k (p++[s])] [])=↑((p++[s]).map dC):=GO (ps:=hP k (p++[s])) rfl rfl;simp[BY,oA,h,Cy,dC];rfl
def cJ(sp:l2):Int:=match sp.getLast? with |none=>0 |some x=>x.2.1
theorem Oz(sp:l2):wh [bV sp]=↑↥(cJ sp):=by
 unfold wh aR bV cJ;cases h:sp.getLast? with
 |none =>
   rw[List.getLast?_eq_none_iff.mp h];simp[BU,lf]
 |some x =>
   obtain⟨q,rfl⟩:=List.getLast?_eq_some_iff.mp h;have I:lf 1 [D.lst ((q++[x]).map sD)]=[!.lst (q.map sD++[sD x])]:=by simp[lf]
   have h1:bF (q.map sD++[sD x]) (-1)=↑(sD x):=Cy _ _;have h2:((q.map sD++[sD x]).length:Int)≠0:=by simp;lia
   rw[I];generalize q.map sD++[sD x]=L at *;have U:decide ((L.length:Int)=0)=false:=em h2;simp only[BU,aE,aZ,aH,aD,j6,ae,ac,fC,b_,ai,U,cj,f8,aO,aJ,aF,gS,dP,bT,h1,sD,cO];rfl
def O0:wG [hA k (p++[s])] []=↑↥(cJ s.2):=by
 unfold wG cB;have D:(nc 1 [hA k (p++[s])] [])[0]?=↑↑(.ro kH (hP k (p++[s]))):=rfl;have h1:=GQ (m:=xn) (F:=aC) D (r:=([],nc 1 [hA k (p++[s])] [])) rfl D;have h2:=Cw (f:=ky xn [0] aC) D;simp[sE] at h1;simp[B_,h2,h1,Oz]
theorem p3{a:Int}(h1:1<=a)(h2:a<=ss.length):zj [] [aG ss,↥a]=none/\oU [] [aG ss,↥a]=some .non:=by
 have e:nc 2 [] [aG ss,↥a]=[!aG ss,!↥a]:=rfl;have l:((ss.map λs=>D.lst (s.map sD)).length:Int)=ss.length:=by rw[ah]
 unfold zj oU xQ cB;rw[aq ⟨rfl,rfl⟩,aq ⟨rfl,rfl⟩,e];unfold aG at *;generalize (ss.map λs=>D.lst (s.map sD))=L at *;simp[rS,show ¬a<1 by lia,show ¬((L.length:Int)<a) by lia]
theorem Cz{a:Int}(h:a<1\/ss.length<a):zj [] [aG ss,↥a]=↑("UnknownStack" : Str):=by
 have e:nc 2 [] [aG ss,↥a]=[!aG ss,!↥a]:=rfl;have l:((ss.map λs=>D.lst (s.map sD)).length:Int)=ss.length:=by rw[ah]
 unfold zj xQ;rw[aq ⟨rfl,rfl⟩,e];unfold aG at *;generalize (ss.map λs=>D.lst (s.map sD))=L at *;by_cases h1:a<1
 ·simp[rS,h1,n8]
 ·simp[rS,h1,show((L.length:Int)<a) by lia,n8]
variable{h:Int}
theorem GS(h1:1<=h)(h2:h<=60):oV [] [↥h]=none/\wA [] [↥h]=some .non:=by
 unfold oV wA xQ cB;rw[aq ⟨rfl,rfl⟩,aq ⟨rfl,rfl⟩,show nc 1 [] [↥h]=[!↥h] from rfl];simp[rT,show ¬h<1 by lia,show ¬60<h by lia]
theorem O1(D:h<1\/60<h):oV [] [↥h]=↑("BadHours" : Str):=by
 unfold oV xQ;rw[aq ⟨rfl,rfl⟩,show nc 1 [] [↥h]=[!↥h] from rfl];by_cases h1:h<1
 ·simp[rT,h1,n8,vInt]
 ·simp[rT,h1,show 60<h by lia,n8,vInt]
theorem wU(h1:0<=h)(h2:h<=100):np [] [↥h]=none/\rW [] [↥h]=some .non:=by
 unfold np rW xQ cB;rw[aq ⟨rfl,rfl⟩,aq ⟨rfl,rfl⟩,show nc 1 [] [↥h]=[!↥h] from rfl];simp[rV,show ¬h<0 by lia,show ¬100<h by lia]
theorem GT(D:h<0\/100<h):np [] [↥h]=↑("BadLoss" : Str):=by
 unfold np xQ;rw[aq ⟨rfl,rfl⟩,show nc 1 [] [↥h]=[!↥h] from rfl];by_cases h1:h<0
 ·simp[rV,h1,n8,vInt]
 ·simp[rV,h1,show 100<h by lia,n8,vInt]
theorem O2(h1:0<=h)(h2:h<=5):w6 [] [↥h]=none/\w5 [] [↥h]=some .non:=by
 unfold w6 w5 xQ cB;rw[aq ⟨rfl,rfl⟩,aq ⟨rfl,rfl⟩,show nc 1 [] [↥h]=[!↥h] from rfl];simp[BV,show ¬h<0 by lia,show ¬5<h by lia]
theorem GU(ss:lx)(D:ss.length<=1000):(if ss.flatten.length<14 then oW [] [aG ss]=none/\wC [] [aG ss]=some .non else oW [] [aG ss]=↑("HouseFull" : Str)):=by
 have h:=G9 ss D;generalize ss.flatten.length=n at *;split <;> rename_i I
 ·unfold oW wC xQ cB
  rw[aq ⟨rfl,rfl⟩,aq ⟨rfl,rfl⟩,show nc 1 [] [aG ss]=[!aG ss] from rfl];simp[wB,h,show ¬(14:Int)<=(n:Int) by lia]
 ·unfold oW xQ
  rw[aq ⟨rfl,rfl⟩,show nc 1 [] [aG ss]=[!aG ss] from rfl];simp[wB,h,show(14:Int)<=(n:Int) by lia,n8,vInt]
theorem zd(ds:k7):(if ds.length<60 then yn [] [.lst ds]=none/\nq [] [.lst ds]=some .non else yn [] [.lst ds]=↑("DeedsFull" : Str)):=by
 split <;> rename_i I
 ·unfold yn nq xQ cB
  rw[aq ⟨rfl,rfl⟩,aq ⟨rfl,rfl⟩,show nc 1 [] [.lst ds]=[!.lst ds] from rfl];simp[wD,show ¬(60:Int)<=(ds.length:Int) by lia]
 ·unfold yn xQ
  rw[aq ⟨rfl,rfl⟩,show nc 1 [] [.lst ds]=[!.lst ds] from rfl];simp[wD,show(60:Int)<=(ds.length:Int) by lia,n8,vInt]
def lg(k:l1):Int:=1+(k.filter eT.isPut).length
theorem O3(k:l1)(U:k.length<=1000):wE [.lst (k.map dD)]=↑↥(lg k):=by
 have c:=qR (tt:=aH (aD b_ (aF 0 [:0]) (fC (.str "put")))) (te:=aB 0) (base:=[]) dD dD eT.isPut k λx _=>by
  cases x with
  |put a h l=>exact⟨_,rfl,λ_=>⟨_,rfl⟩⟩
  |tell a p l=>exact⟨_,rfl,λz=>nomatch z⟩
  |go a=>exact⟨_,rfl,λz=>nomatch z⟩ |dry=>exact⟨_,rfl,λz=>nomatch z⟩
 have I:bS (k.map dD).length:=few (by rw[ah];lia);unfold wE aR;rw[aq (show[D.lst (k.map dD)].length=1 from rfl),show lf 1 [D.lst (k.map dD)]=[!.lst (k.map dD)] from rfl];unfold lg;generalize k.map dD=L at *;simp[GF,kj,I,c]
def hI:fK κ 0 f (↑(.ag κ l ps)::e)=f (↑(.ag κ l ps)::e):=wT rfl
def sF:fK κ 0 f (↑(.ro κ ps)::e)=f (↑(.ro κ ps)::e):=Cw rfl
variable{sl:Sl}
def gP:ky m [0] F (↑sl::e)=(F (↑sl::e)).bind λr=>(eQ r.2 [0]).bind λags=>(m ags r.1).map λd=>(d,r.2):=aq λk D=>by rw[d6.mp D];exact⟨_,rfl⟩
def wV{m:ll->k7->ln}:ni m [0] F (↑sl::e)=(F (↑sl::e)).bind λr=>(dY r.2 [0]).bind λags=>(m ags r.1).bind λq=>if q.2.map (·.1)=ags.map (·.1) then ↑(q.1,dJ r.2 [0] q.2) else none:=aq λk I=>by rw[d6.mp I];exact⟨_,rfl⟩
def wW:dY (↑(.ag κ l ps)::e) [0]=↑[(κ,ps)]:=rfl
variable{κ':AK}
def wX:dJ (↑(.ag κ l ps)::e) [0] [(κ',ps')]=↑(.ag κ' l ps')::e:=rfl
def qj:eQ (↑(.ag κ l ps)::e) [0]=↑[(κ,ps)]:=rfl
def GV:eQ (↑(.ro κ ps)::e) [0]=↑[(κ,ps)]:=rfl
def yr:ur kH 0 0 (frz true (↑(.ag kH l (hP k p))::e))=↑(.lst (k.map dD),frz true (↑(.ag kH l (hP k p))::e)):=by
 unfold ur;rw[aq (show kK kH (frz true (↑(.ag kH l (hP k p))::e)) 0 from .inr ⟨[.d (.lst (k.map dD)),.d (.lst (p.map dC))],rfl⟩)];rfl
variable{r:Nat}
def GW(h:e[i]?=↑↑(.ag κ ↑r ps))(I:∀c fs,κ≠.ins true c fs)(D:ps[j]?=↑(.o ds))(U:f e=↑(d,e))(V:bS (ds.length+1)) :
  wz (.at κ) i j f e=↑(.non,e.set i ↑(.ag κ ↑r (ps.set j (.o (ds++[d]))))):=by
 unfold wz;rw[h];dsimp only;rw[aq (show jX κ ↑r from⟨rfl,I⟩),GN h D,ac,U,ac];unfold kZ;rw[h];dsimp only;rw[D];dsimp only;rw[aq ⟨rfl,rfl,rfl,V⟩];unfold setP;rw[h]
theorem wY{d:eT}{sp:l2}(D:k.length<=1000)(I:p.length<=1000):wm [hA k p] [dD d,aG ss,bV sp]=↑(.non,[hA (k++[d]) (p++[(ss,sp)])]):=by
 have h1:=GW (e:=[↑(.ag kH ↑0 (hP k p)),!dD d,!aG ss,!bV sp]) (i:=0) (j:=0) (f:=aB 1) rfl (λc fs z=>nomatch z) rfl rfl (few (by rw[ah];lia));have h2:=GW (e:=[↑(.ag kH ↑0 ((hP k p).set 0 (.o (k.map dD++[dD d])))),!dD d,!aG ss,!bV sp]) (i:=0) (j:=1) (f:=bE (az (aB 2) (az (aB 3) aC))) (ds:=p.map dC) rfl (λc fs z=>nomatch z) rfl rfl (few (by rw[ah];lia));unfold wm dB;rw[aq ⟨rfl,rfl⟩,show mh 4 [hA k p] [dD d,aG ss,bV sp]=[↑(.ag kH ↑0 (hP k p)),!dD d,!aG ss,!bV sp] from rfl];simp[BZ,h1,h2];unfold hA hP;rw[bw,bw];rfl
def fV(ss:lx)(n:Nat)(a h l:Int):ka:=if a<1\/(ss.length:Int)<a then some "UnknownStack" else if h<1\/60<h then some "BadHours" else if l<0\/100<l then some "BadLoss" else if ss.flatten.length<14 then(if n<60 then none else some "DeedsFull") else some "HouseFull"
def fO(ss:lx)(a:Nat)(x:Sk):lx:=ss.set (a-1) (x::ss.getD (a-1) [])
theorem O4{l:Int}(I:fV s.1 k.length a h l=none)(r:s.1.length<=5)(t:p.length<=100) :
  oX [hA k (p++[s])] [↥a,↥h,↥l]=none/\rY [hA k (p++[s])] [↥a,↥h,↥l]=↑(.int (lg k),[hA (k++[.put a h l]) (p++[s]++[(fO s.1 a (lg k,h,l),s.2)])]):=by
 unfold fV at I;split at I
 ·cases I
 split at I
 ·cases I
 split at I
 ·cases I
 split at I;case isFalse=>cases I
 rename_i c;split at I;case isFalse=>cases I
 rename_i e;have k1:=p3 (ss:=s.1) (a:=a) ∅ ∅;have k2:=GS (h:=h) ∅ ∅;have k3:=wU (h:=l) ∅ ∅;have b:=GU s.1 ∅;rw[aq c] at b;have k5:=zd (k.map dD);rw[aq (by rw[ah];exact e)] at k5;have f:=O3 k ∅;have U:(a-1:Nat)<s.1.length:=by lia
 have g:bF (s.1.map λs=>D.lst (s.map sD)) ((a:Int)-1)=↑(.lst ((s.1.getD (a-1) []).map sD)):=by
  rw[show(a:Int)-1=((a-1:Nat):Int) by lia,m9 (λs:lu=>D.lst (s.map sD)) (am U),bn,am U];rfl
 have i:=BS (ss:=s.1) (a:=a) ((lg k,h,l)::s.1.getD (a-1) []) ∅ ∅ ∅;have j:=wY (k:=k) (p:=p++[s]) (d:=.put a h l) (ss:=fO s.1 a (lg k,h,l)) (sp:=s.2) ∅ (by simp;lia);have m:=wj (k:=k) (p:=p) (s:=s);have n:=sE (k:=k) (p:=p) (s:=s);have o:bS (0+1+((s.1.getD (a-1) []).map sD).length):=few (by
  have:(s.1.getD (a-1) []).length<=s.1.flatten.length:=by
   rw[bn,am U];exact(f9 (jt U)).length_le
  rw[ah];lia)
 have q:mh 7 [hA k (p++[s])] [↥a,↥h,↥l]=[↑(.ag kH ↑0 (hP k (p++[s]))),!↥a,!↥h,!↥l,none,none,none]:=rfl;have Y:wm [(kH,hP k (p++[s]))] [.tup [.str "put",↥a,↥h,↥l],aG (fO s.1 a (lg k,h,l)),bV s.2]=↑(.non,[hA (k++[.put a h l]) (p++[s]++[(fO s.1 a (lg k,h,l),s.2)])]):=j;have Z:oJ [aG s.1,↥a,.lst (.tup [↥(lg k),↥h,↥l]::(s.1.getD (a-1) []).map sD)]=↑(aG (fO s.1 a (lg k,h,l))):=i;have V:yi (mh 7 [hA k (p++[s])] [↥a,↥h,↥l])=↑(.rt ↥(lg k),[↑(.ag kH ↑0 (hP (k++[.put a h l]) (p++[s]++[(fO s.1 a (lg k,h,l),s.2)]))),!↥a,!↥h,!↥l,!aG s.1,!↥(lg k),!(.lst (.tup [↥(lg k),↥h,↥l]::(s.1.getD (a-1) []).map sD))]):=by
  rw[q];generalize (s.1.getD (a-1) []).map sD=TL at *;unfold aG at *;simp[yi,hI,gP,qj,m,qc,qm,k1,k2,k3,b,fN,dH,yr,k5,noL,f,g,o,wV,wW,Z,n,Y,wX]
 exact⟨by unfold oX xL;rw[aq ⟨rfl,rfl⟩,V],by unfold rY dB;rw[aq ⟨rfl,rfl⟩,V];rfl⟩
def eF(n:Nat):Hs:=(List.replicate n [],[])
theorem O5(b:n<=5):BW [(.ins true "House" [],[])] [↥n]=none/\rX [(.ins true "House" [],[])] [↥n]=↑(.non,[(.ins true "House" kr,hP [] [eF n])]):=by
 have k1:=O2 (h:=n) ∅ ∅;have U:bS (cG 0 n).length:=few (by rw[yg];lia);have c:=ud (te:=aL (iy aC)) (base:=[]) (λi:Nat=>D.int (0+(i:Int))) (λ_:Nat=>D.lst []) (List.range n) λi _=>⟨_,rfl⟩;have V:=vh n ∅;have Y:mh 2 [(AK.ins true "House" [],[])] [↥n]=[↑(.ag (.ins true "House" []) ↑0 []),!↥n]:=rfl;have Z:(List.range n).map (λ_=>D.lst [])=(List.replicate n ([]:lu)).map λs=>D.lst (s.map sD):=by
  rw[List.map_const',jg,tq,dm]
 have I:wF (mh 2 [(AK.ins true "House" [],[])] [↥n])=↑(.nx,[↑(.ag (.ins true "House" kr) ↑0 (hP [] [eF n])),!↥n]):=by
  rw[Y];unfold cG at V U;rw[Z] at c;have a:(True/\(Str.ofString "kept")∉([]:h6)/\0<900):=⟨trivial,by simp,by decide⟩;simp only[wF,aE,eG,qc,qm,az,aB,aC,af,ae,ac,k1,oy,ai,j4,rk,iy,ce,ib,dh,av,l9,bE,aL,kj,jv,V,U,c,dm,ao,show 0+1+1<=64 by decide,show 0+1<=64 by decide];rw[aq a];simp only[ac,af,ae,V,U,c,dh,ai,ao,ce,show 0+1+1<=64 by decide,show 0+1<=64 by decide];rfl
 exact⟨by unfold BW xL;rw[aq ⟨rfl,rfl⟩,I],by unfold rX dB;rw[aq ⟨rfl,rfl⟩,I];rfl⟩
def O6(D:n<=5)(I:F e=↑([↥n],e')):qZ "House" rX F e=↑((kH,hP [] [eF n]),e'):=by
 unfold qZ;rw[I,ac,(O5 D).2];rfl
def GX(h:e[i]?=↑↑(.ag kH l (hP k p))):fK kH i (ky m [i] aC) e=(m [hA k p] []).map λd=>(d,e):=by
 rw[wT h];exact GR h (r:=([],e)) rfl h
variable{m:ll->k7->Option (Str×ll)}
def p4{m:ll->k7->ln}(h:e[i]?=↑↑(.ag κ l ps))(I:F e=↑(ds,e))(U:m [(κ,ps)] ds=↑(d,[(κ,ps')])):ni m [i] F e=↑(d,e.set i ↑(.ag κ l ps')):=Ov h (r:=(ds,e)) I h U
def GY{d:Str}(h:e[i]?=↑↑(.ag κ l ps))(D:F e=↑(ds,e))(I:m [(κ,ps)] ds=↑(d,[(κ,ps')])):qk m [i] F e=↑(d,e.set i ↑(.ag κ l ps')):=Ox h (r:=(ds,e)) D h I
def GZ(h:e[i]?=↑↑(.ag κ l ps))(D:F e=↑(ds,e))(I:m [(κ,ps)] ds=none):qk m [i] F e=none:=Oy h (r:=(ds,e)) D h I
def sG:D->Prop | .int _=>True | .str _=>True |_=>False
theorem C0(xs:k7)(V:∀x∈xs,sG x)(Z:xs.length<=1000):rC [.tup xs,.tup xs]=↑(.bl true):=by
 obtain⟨e',h1,v2,rfl⟩:=zf (i:=2) (g:=vl) (λk e=>∃v2,e=[!.tup xs,!.tup xs,v2]) (cG 0 xs.length) [!.tup xs,!.tup xs,none] ⟨none,rfl⟩ (by
  rintro k d e hd ⟨v2,rfl⟩;obtain⟨rfl,I⟩:=mL hd;have U:bF xs (k:Int)=↑xs[k]:=by
   unfold bF;rw[wf ∅ ∅];simp[I]
  have Y:=V _ (jt I);generalize xs[k]=x at *;cases x with
  |int i=>simp[vl,U,vM]
  |str i=>simp[vl,U]
  |_=>exact Y.elim)
 have hi:=vh xs.length ∅;refine lm (e':=?w) rfl ?h;show AH [!.tup xs,!.tup xs,none]=_;simp[AH,hi,h1];rfl
variable{x:Sk}
def O7(h:a-1<ss.length):(fO ss a x).flatten.Perm (x::ss.flatten):=by
 exact vQ (x:=[x]) (by simp[h])
def O8(h:zi [aG s.1]=↑(iD os)):r_ [hA k (p++[s])] []=↑(.lst (iD os)):=by
 unfold r_ cB;have D:(nc 1 [hA k (p++[s])] [])[0]?=↑↑(.ro kH (hP k (p++[s]))):=rfl;have h1:=GQ (m:=vp) (F:=aC) D (r:=([],nc 1 [hA k (p++[s])] [])) rfl D;have h2:=Cw (f:=ky vp [0] aC) D;simp[wj] at h1;simp[Ca,h2,h1,h]
theorem G_(ss:lx)(D:ss.length<=1000):(if 0<ss.flatten.length then oY [] [aG ss]=none/\wI [] [aG ss]=some .non else oY [] [aG ss]=↑("NothingWaits" : Str)):=by
 have h:=G9 ss D;generalize ss.flatten.length=n at *;split <;> rename_i I
 ·unfold oY wI xQ cB
  rw[aq ⟨rfl,rfl⟩,aq ⟨rfl,rfl⟩,show nc 1 [] [aG ss]=[!aG ss] from rfl];simp[wH,h,show ¬n=0 by lia]
 ·unfold oY xQ
  rw[aq ⟨rfl,rfl⟩,show nc 1 [] [aG ss]=[!aG ss] from rfl];simp[wH,h,show n=0 by lia,n8]
def eM(s:Hs)(a:Nat)(x:Sk)(tl:lu):Hs:=(s.1.set (a-1) tl,s.2++[(cJ s.2,cJ s.2+x.2.1,aQ s.1.flatten)])
variable{tl:lu}
theorem O9(b:zi [aG s.1]=↑(iD (a::os)))(V:s.1[a-1]?=↑(x::tl))(Y:1<=a)(c:k.length<60)(t:s.1.length<=5)(u:p.length<=100)(e:∀y∈s.1,y.length<=1000)(f:s.2.length<=1000)(g:0<s.1.flatten.length) :
  o_ [hA k (p++[s])] []=none/\rZ [hA k (p++[s])] []=↑(sD x,[hA (k++[.dry]) (p++[s]++[eM s a x tl])]):=by
 have k1:=G_ s.1 ∅;rw[aq g] at k1;have k5:=zd (k.map dD);rw[aq (by rw[ah];exact c)] at k5;have h:=GA V Y;have i:=GD V Y ∅;have j:=Og s.1 e;have l:wm [(kH,hP k (p++[s]))] [.tup [.str "dry"],aG (s.1.set (a-1) tl),.lst (s.2.map sD++[.tup [↥(cJ s.2),↥(cJ s.2+x.2.1),↥(aQ s.1.flatten)]])]=↑(.non,[hA (k++[.dry]) (p++[s]++[eM s a x tl])]):=by
  have:=wY (k:=k) (p:=p++[s]) (d:=.dry) (ss:=s.1.set (a-1) tl) (sp:=s.2++[(cJ s.2,cJ s.2+x.2.1,aQ s.1.flatten)]) ∅ (by simp;lia);unfold bV at this;rw[bw] at this;exact this
 have m:=wj (k:=k) (p:=p) (s:=s);have Z:=sE (k:=k) (p:=p) (s:=s);have o:=O0 (k:=k) (p:=p) (s:=s);have kd:ue [sD x]=↑↥x.2.1:=rP x;have q:bS ((s.2.map sD).length+(0+1)):=few (by rw[ah];lia);have U:bF (iD (a::os)) 0=↑↥(a:Int):=by unfold iD;exact m9 (k:=0) (λn:Nat=>D.int (n:Int)) rfl
 have r:mh 6 [hA k (p++[s])] []=[↑(.ag kH ↑0 (hP k (p++[s]))),none,none,none,none,none]:=rfl;have I:∃e',oZ (mh 6 [hA k (p++[s])] [])=↑(.rt (sD x),↑(.ag kH ↑0 (hP (k++[.dry]) (p++[s]++[eM s a x tl])))::e'):=by
  rw[r];unfold bV at Z;generalize s.2.map sD=SP at *;simp[oZ,hI,gP,qj,m,qc,qm,k1,fN,dH,yr,k5,noL,h,b,U,o,kd,j,i,Z,q,wV,wW,l,wX]
 obtain⟨e',I⟩:=I;exact⟨by unfold o_ xL;rw[aq ⟨rfl,rfl⟩,I],by unfold rZ dB;rw[aq ⟨rfl,rfl⟩,I];rfl⟩
def zx:Int->l2->Prop
 |_,[]=>True |b,x::r=>x.1=b/\x.1<=x.2.1/\zx x.2.1 r
def wq:Int->l2->Int
 |b,[]=>b |_,x::r=>wq x.2.1 r
def C1:∀(sp:l2) (b:Int) (x:wS),wq b (sp++[x])=x.2.1
 | [],_,_=>rfl |y::r,_,x=>C1 r y.2.1 x
def C2(sp:l2):cJ sp=wq 0 sp:=by
 unfold cJ;cases h:sp.getLast? with
 |none=>rw[List.getLast?_eq_none_iff.mp h];rfl |some x=>obtain⟨q,rfl⟩:=List.getLast?_eq_some_iff.mp h;rw[C1]
def Ha:∀(sp:l2) (b:Int) (x:wS),zx b sp->x.1=wq b sp->x.1<=x.2.1->zx b (sp++[x])
 | [],_,_,_,h,h2=>⟨h,h2,trivial⟩ |y::r,_,x,hc,h,h2=>⟨hc.1,hc.2.1,Ha r _ x hc.2.2 h h2⟩
def gL(sp:l2):ik:=(sp.map λx=>List.replicate (x.2.1-x.1).toNat x.2.2).flatten
theorem C3:∀(sp:l2) (b:Int),zx b sp->((gL sp).length:Int)=wq b sp-b
 | [],b,_=>by show(0:Int)=b-b;lia |x::r,b,hc=>by
   have D:=C3 r _ hc.2.2;have e:gL (x::r)=List.replicate (x.2.1-x.1).toNat x.2.2++gL r:=rfl;rw[e,ak,f7];have:=hc.1;have:=hc.2.1;show _=wq x.2.1 r-b
   lia
theorem OA(ss:lx)(Y:ss.length<=1000)(V:∀s∈ss,s.length<=1000):wJ [aG ss]=↑↥(aQ ss.flatten):=by
 have c:=ud (te:=e7 fL (az (aL (kj (cV (aB 0)) [] cA (aF 0 [:2]))) (aC))) (base:=[]) (λs:lu=>D.lst (s.map sD)) (λs:lu=>D.int (s.map λx:Sk=>x.2.2).sum) ss λs Z=>by
  have b:=ud (te:=aF 0 [:2]) (base:=[]) sD (λx:Sk=>D.int x.2.2) s λx _=>⟨_,by simp[sD,nY];rfl⟩;have I:=oM (λx:Sk=>x.2.2) s;have U:bS (s.map sD).length:=few (by rw[ah];have:=V s Z;lia);generalize s.map sD=L at *;exact⟨_,by simp[kj,U,b,I];rfl⟩
 have I:=oM (λs:lu=>(s.map λx:Sk=>x.2.2).sum) ss;have U:bS (ss.map λs=>D.lst (s.map sD)).length:=few (by rw[ah];lia);have d:(ss.map λs:lu=>(s.map λx:Sk=>x.2.2).sum).sum=aQ ss.flatten:=by
  clear c I U Y V;induction ss with
  |nil=>rfl |cons a l ih=>rw[bq,gn,ih,df,t3];rfl
 rw[d] at I;refine lm (e':=[!aG ss]) rfl ?_;show Cb [!aG ss]=_;unfold aG;generalize (ss.map λs=>D.lst (s.map sD))=L at *;simp[Cb,kj,U] at c ⊢;simp[c,I]
def Hb(a b:l2):gL (a++b)=gL a++gL b:=by simp[gL]
theorem OB(sp:l2){b:Int}(I:zx b sp)(m:wq b sp-b<=100000):Cd [bV sp]=↑(.lst ((gL sp).map D.int)):=by
 have c:=C3 sp b I;obtain⟨e',Z,v2,V,Y,rfl⟩:=xg (ix:=[2,3,4]) (g:=wK) (λx:wS=>[D.int x.1,↥x.2.1,↥x.2.2]) (λp e=>∃v2 V Y,e=[!bV sp,!.lst ((gL p).map D.int),v2,V,Y]) sp
  [!bV sp,!.lst [],none,none,none] ⟨none,none,none,rfl⟩ (λ_ _=>rfl) (by
   rintro p x q e U ⟨v2,V,Y,rfl⟩;have d:(gL p).length+(x.2.1-x.1).toNat<=100000:=by
    have:(gL sp).length=(gL p).length+((x.2.1-x.1).toNat+(gL q).length):=by rw[U,Hb,ak];congr 1;show(List.replicate _ _++gL q).length=_;simp
    lia
   have a:jB (-(2 ^ 62)) (2 ^ 62) (x.2.1-x.1):=by
    have:-100000<=x.2.1-x.1:=by
     have f:∀(l:l2) (b:Int),zx b l->x∈l->x.1<=x.2.1:=by
      intro l;induction l with
      |nil=>intro b _ h;cases h
      |cons y r ih=>intro b I h;rcases cr.mp h with rfl |h;exact I.2.1;exact ih _ I.2.2 h
     have:=f sp b I (by rw[U];simp)
     lia
    exact⟨by lia,by lia⟩
   have i:bS ((0+1)*(x.2.1-x.1).toNat):=by show _<=_;lia
   have j:bS (((gL p).map D.int).length+(List.replicate (x.2.1-x.1).toNat (D.int x.2.2)).length):=by show _<=_;rw[ah,f7];lia
   have k:(gL (p++[x])).map D.int=(gL p).map D.int++List.replicate (x.2.1-x.1).toNat (D.int x.2.2):=by rw[Hb,bw,show gL [x]=List.replicate (x.2.1-x.1).toNat x.2.2 by simp[gL],tq]
   refine⟨[!bV sp,!.lst ((gL (p++[x])).map D.int),!↥x.1,!↥x.2.1,!↥x.2.2],?_,_,_,_,rfl⟩;rw[k];simp only[ql,wK,aI,aL,cM,iB,iy,az,aC,aB,aD,bA,ae,af,ac,ai,av,aw,ao,ce,show 0+1<=64 by decide,dh,i,a,zl,BG,j])
 have Z:gF [2,3,4] wK (sp.map sD) [!bV sp,!.lst [],none,none,none]=_:=Z;refine lm (e':=[!bV sp,!.lst ((gL sp).map D.int),v2,V,Y]) rfl ?_;show Cc [!bV sp,none,none,none,none]=_;unfold bV at *;simp[Cc,Z]
def OC(h:rJ [aG s.1]=↑d):pa [hA k (p++[s])] []=↑d:=by
 unfold pa cB;rw[aq ⟨rfl,rfl⟩,show nc 1 [hA k (p++[s])] []=[↑(.ro kH (hP k (p++[s])))] from rfl];simp[Cr,sF,gP,GV,wj,h]
variable{t:lu}
theorem wZ(h:ss[a-1]?=↑t)(I:1<=a)(U:ss.length<=1000):(if t.length=0 then nu [] [aG ss,↥(a:Int)]=↑("EmptyStack" : Str) else nu [] [aG ss,↥(a:Int)]=none/\s0 [] [aG ss,↥(a:Int)]=some .non):=by
 have h1:=wt h I;have V:=(aj.mp h).1;have e:nc 2 [] [aG ss,↥(a:Int)]=[!aG ss,!↥(a:Int)]:=rfl;have D:((t.map sD).length:Int)=t.length:=by rw[ah]
 generalize t.map sD=T at *;split <;> rename_i Y
 ·unfold nu xQ
  rw[aq ⟨rfl,rfl⟩,e];unfold aG;have c:decide ((T.length:Int)=0)=true:=ke ∅;simp only[wQ,aZ,aH,aD,e7,az,aF,bT,aB,fC,aC,bA,ae,af,ac,ai,h1,dM,b_,c,dh,n8,vInt,show((a:Int)).natAbs<1000000 by lia]
 ·unfold nu s0 xQ cB
  rw[aq ⟨rfl,rfl⟩,aq ⟨rfl,rfl⟩,e];unfold aG;have c:decide ((T.length:Int)=0)=false:=em ∅;simp only[wQ,aZ,aH,aD,e7,az,aF,bT,aB,fC,aC,bA,ae,af,ac,ai,h1,dM,b_,c,cj,f8,aO,zl]
def C4(s:Hs)(a:Nat)(tl:lu):Hs:=(s.1.set (a-1) tl,s.2)
theorem OD(I:s.1[a-1]?=↑(x::tl))(U:1<=a)(V:k.length<60)(g:s.1.length<=5)(h:p.length<=100) :
  pc [hA k (p++[s])] [↥(a:Int)]=none/\sA [hA k (p++[s])] [↥(a:Int)]=↑(sD x,[hA (k++[.go a]) (p++[s]++[C4 s a tl])]):=by
 have i:=(aj.mp I).1;have k1:=p3 (ss:=s.1) (a:=a) ∅ ∅;have k2:=wZ I U ∅;rw[b7 ⋯] at k2;have k5:=zd (k.map dD);rw[aq (by rw[ah];exact V)] at k5;have Y:=GA I U;have Z:=GD I U ∅;have b:wm [(kH,hP k (p++[s]))] [.tup [.str "go",↥(a:Int)],aG (s.1.set (a-1) tl),bV s.2]=↑(.non,[hA (k++[.go a]) (p++[s]++[C4 s a tl])]):=wY (k:=k) (p:=p++[s]) (d:=.go a) (ss:=s.1.set (a-1) tl) (sp:=s.2) ∅ (by simp;lia);have c:=wj (k:=k) (p:=p) (s:=s);have e:=sE (k:=k) (p:=p) (s:=s);have f:mh 3 [hA k (p++[s])] [↥(a:Int)]=[↑(.ag kH ↑0 (hP k (p++[s]))),!↥(a:Int),none]:=rfl;have D:nw (mh 3 [hA k (p++[s])] [↥(a:Int)])=↑(.rt (sD x),[↑(.ag kH ↑0 (hP (k++[.go a]) (p++[s]++[C4 s a tl]))),!↥(a:Int),!aG s.1]):=by
  rw[f];generalize bV s.2=SP at *;simp[nw,hI,gP,qj,c,qc,qm,k1,k2,fN,dH,yr,k5,noL,Y,Z,e,wV,wW,b,wX]
 exact⟨by unfold pc xL;rw[aq ⟨rfl,rfl⟩,D],by unfold sA dB;rw[aq ⟨rfl,rfl⟩,D];rfl⟩
theorem Hc{m:Int}:(if m<1\/(t.length:Int)<m then pu [] [.lst (t.map sD),↥m]=↑("UnknownPlace" : Str) else pu [] [.lst (t.map sD),↥m]=none/\wR [] [.lst (t.map sD),↥m]=some .non):=by
 have e:nc 2 [] [.lst (t.map sD),↥m]=[!.lst (t.map sD),!↥m]:=rfl;have D:((t.map sD).length:Int)=t.length:=by rw[ah]
 generalize t.map sD=T at *;split <;> rename_i I
 ·unfold pu xQ
  rw[aq ⟨rfl,rfl⟩,e];by_cases h1:m<1
  ·simp[sB,h1,n8]
  ·simp[sB,h1,show(T.length:Int)<m by lia,n8]
 ·unfold pu wR xQ cB
  rw[aq ⟨rfl,rfl⟩,aq ⟨rfl,rfl⟩,e];simp[sB,show ¬m<1 by lia,show ¬(T.length:Int)<m by lia]
def OE(x:Sk)(l:Int):Cv [sD x,↥l]=↑(sD (x.1,x.2.1,l)):=by
 rfl
theorem OF{m:Nat}{l:Int}(U:s.1[a-1]?=↑t)(b:t[m-1]?=↑x)(V:1<=a)(E:1<=m)(g:0<=l)(h1:l<=100)(i:k.length<60)(F:s.1.length<=5)(j:t.length<=1000)(G:p.length<=100) :
  pw [hA k (p++[s])] [↥(a:Int),↥(m:Int),↥l]=none/\sC [hA k (p++[s])] [↥(a:Int),↥(m:Int),↥l]=↑(.int x.2.2,[hA (k++[.tell a m l]) (p++[s]++[(s.1.set (a-1) (t.set (m-1) (x.1,x.2.1,l)),s.2)])]):=by
 have H:=(aj.mp U).1;have J:=(aj.mp b).1;have k1:=p3 (ss:=s.1) (a:=a) ∅ ∅;have k2:=wZ U V ∅;rw[b7 ∅] at k2;have k3:=Hc (t:=t) (m:=m);rw[b7 ∅] at k3;have n:=wU (h:=l) g h1;have k5:=zd (k.map dD);rw[aq (by rw[ah];exact i)] at k5;have o:=wt U V;have q:bF (t.map sD) ((m:Int)-1)=↑(sD x):=by
  rw[show(m:Int)-1=((m-1:Nat):Int) by lia];exact m9 sD b
 have c:=BS (ss:=s.1) (a:=a) (t.set (m-1) (x.1,x.2.1,l)) V ∅ ∅;have K:(t.map sD).length=t.length:=ah ..;have e:=GC (t.map sD) (m-1) ∅;rw[show((m-1:Nat):Int)=(m:Int)-1 by lia] at e;have r:=v_ (t.map sD) m ∅;have f:=GB (t.map sD) (m-1) (sD (x.1,x.2.1,l)) ∅;rw[show m-1+1=m by lia] at f;have u:bS (((t.map sD).take (m-1)).length+(0+1)):=few (by simp only[fj];lia);have v:bS (((t.map sD).take (m-1)++[sD (x.1,x.2.1,l)]).length+((t.map sD).drop m).length):=few (by simp[fj,fm];lia);have w:(t.set (m-1) (x.1,x.2.1,l)).map sD=(t.map sD).set (m-1) (sD (x.1,x.2.1,l)):=jz ..;rw[w,<-f] at c;have y:wm [(kH,hP k (p++[s]))] [.tup [.str "tell",↥(a:Int),↥(m:Int),↥l],aG (s.1.set (a-1) (t.set (m-1) (x.1,x.2.1,l))),bV s.2]=↑(.non,[hA (k++[.tell a m l]) (p++[s]++[(s.1.set (a-1) (t.set (m-1) (x.1,x.2.1,l)),s.2)])]):=wY (k:=k) (p:=p++[s]) (d:=.tell a m l) (ss:=s.1.set (a-1) (t.set (m-1) (x.1,x.2.1,l))) (sp:=s.2) ∅ (by simp;lia);have z:=wj (k:=k) (p:=p) (s:=s);have A:=sE (k:=k) (p:=p) (s:=s);have B:=OE x l;have kd:=rQ x;have C:mh 8 [hA k (p++[s])] [↥(a:Int),↥(m:Int),↥l]=[↑(.ag kH ↑0 (hP k (p++[s]))),!↥(a:Int),!↥(m:Int),!↥l,none,none,none,none]:=rfl;have I:∃e',xm (mh 8 [hA k (p++[s])] [↥(a:Int),↥(m:Int),↥l])=↑(.rt ↥x.2.2,↑(.ag kH ↑0 (hP (k++[.tell a m l]) (p++[s]++[(s.1.set (a-1) (t.set (m-1) (x.1,x.2.1,l)),s.2)])))::e'):=by
  rw[C];unfold aG at *;generalize (s.1.map λs=>D.lst (s.map sD))=SL at *;generalize (t.map sD).take (m-1)=TA at *;generalize (t.map sD).drop m=TB at *;generalize t.map sD=T at *;generalize sD (x.1,x.2.1,l)=Y at *;generalize sD x=Z at *;refine⟨[!↥(a:Int),!↥(m:Int),!↥l,!.lst SL,!.lst T,!Z,!.lst (TA++[Y]++TB)],?_⟩;simp only[xm,aE,aI,eG,j4,hI,gP,aC,ac,qj,z,ai,aw,av,qc,qm,az,aB,af,ae,k1,k2,k3,n,oy,fN,dH,yr,k5,noL,dh,e7,aF,bT,aD,fC,bA,o,q,aL,cM,gT,iL,gK,e,r,iy,B,u,v,bE,ao,ce,show 0+1<=64 by decide,show 0+1+1+1+1<=64 by decide,c,A,wV,wW,y,bq,dm,wX,aJ,kd]
 obtain⟨e',I⟩:=I;exact⟨by unfold pw xL;rw[aq ⟨rfl,rfl⟩,I],by unfold sC dB;rw[aq ⟨rfl,rfl⟩,I];rfl⟩
abbrev dN(ss:lx):List k7:=ss.map λs=>s.map sD
def He(h:e[j]?=↑⇑d):(frz false e)[j]?=↑⇑d:=by
 unfold frz;rw[b8,h];rfl
def Hf(h:e[j]?=↑↑(.o2 (dN ss))):(frz false e)[j]?=↑⇑(aG ss):=by
 unfold frz;rw[b8,h];show ↑↑(Sl.sh (.lst ((dN ss).map D.lst)))=_;unfold dN aG;rw[gh];rfl
def Hg(r:lu):noLs (r.map sD)=true:=by
 induction r with
 |nil=>rfl |cons x r ih=>rw[bq];unfold noLs;rw[ih];rfl
variable{c w:Str}
def OG(h:oG c=↑w):((List.range 13).filter λk=>c==n9.getD k "").map (λk=>D.str (ve.getD k ""))=[D.str w]:=by
 have I:c∈n9:=Fz (by unfold jN;rw[h];rfl);simp[n9] at I;rcases I with rfl |rfl |rfl |rfl |rfl |rfl |rfl |rfl |rfl |rfl |rfl |rfl |rfl <;> cases h <;> rfl
theorem OH(c:Str)(d:D)(h:jN c=↑d):mX 4 AD c d:=by
 obtain⟨w,V,rfl⟩:=gf.mp h;intro ea;have Y:gB [↥13]=↑(cG 0 13):=vh 13 (by decide);have Z:∀n,n<=100->bS n=True:=λn f=>ug (few ∅);have I:=qR (tt:=cZ (aH (aF 2 (aB 0))) (aH (dG ea 3 true))) (te:=aF 1 (aB 0)) (base:=[!.lst (ve.map D.str),!(.lst (n9.map λn=>D.bl (c==n))),!.exc ea]) (λj:Nat=>D.int (0+(j:Int))) (λk=>D.str (ve.getD k "")) (λk=>c==n9.getD k "") (List.range 13) (λk U=>by
  have U:=gv.mp U;have a:bF (n9.map λn=>D.bl (c==n)) (0+(k:Int))=↑(.bl (c==n9.getD k "")):=by
   rw[j2,m9 (λn:Str=>D.bl (c==n)) (am (show k<n9.length from U)),bn,am (show k<n9.length from U)];rfl
  have b:bF (ve.map D.str) (0+(k:Int))=↑(.str (ve.getD k "")):=by
   rw[j2,m9 D.str (am (show k<ve.length from U)),bn,am (show k<ve.length from U)];rfl
  generalize (n9.map λn=>D.bl (c==n))=KL at *;generalize ve.map D.str=WL at *;refine⟨[!↥(0+(k:Int)),!.lst WL,!.lst KL,!.exc ea],?_,λ_=>⟨_,by simp only[aF,aB,bT,ae,af,ac,ai,b];rfl⟩⟩;generalize (c==n9.getD k "")=bb at *;cases bb <;> simp only[cZ,aH,aF,aB,bT,dG,a,ae,af,ac,ai,cj,f8,dh])
 rw[OG V] at I;have I:tw (cZ (aH (aF 2 (aB 0))) (aH (dG ea 3 true))) (aF 1 (aB 0)) [!.lst (ve.map D.str),!(.lst (n9.map λn=>D.bl (c==n))),!.exc ea] (cG 0 13)=↑[D.str w]:=I;have e:(cG 0 13).length=13:=rfl;refine⟨[!.exc ea,!(.lst (n9.map λn=>D.bl (c==n))),!.lst (ve.map D.str),!.lst [.str w]],?_⟩;show AD ea c [!.exc ea,none,none,none]=_;simp[n9,ve] at I ⊢;simp[AD,dG,Z,kj,Y,e,gN,I,jZ]
def sH:FS:=aE (aZ (aH (aD b_ (gO (.at (.ins false "House" kr)) 0 0) [:0])) (n8 "NothingDone" (some)) (aO)) (aE (j4 (hC (.at (.ins false "House" kr)) 0 1)) (aJ (hC (.at (.ins false "House" kr)) 0 0)))
def sI:ll->k7->ln:=dB 1 1 0 sH
def p5:ll->k7->Option (Str×ll):=xL 1 1 0 sH
def vo:FS:=aE (aZ (aH (aD b_ (aF 1 [:0]) (fC (.str "put")))) (eG (xK (.ins false "House" kr) 0 (qk oX [0] (az (aF 1 [:1]) (az (aF 1 [:2]) (az (aF 1 [:3]) (aC)))))) (aJ (fK (.ins false "House" kr) 0 (ni rY [0] (az (aF 1 [:1]) (az (aF 1 [:2]) (az (aF 1 [:3]) (aC)))))))) (aO)) (aE (aZ (aH (aD b_ (aF 1 [:0]) (fC (.str "tell")))) (eG (xK (.ins false "House" kr) 0 (qk pw [0] (az (aF 1 [:1]) (az (aF 1 [:2]) (az (aF 1 [:3]) (aC)))))) (aJ (fK (.ins false "House" kr) 0 (ni sC [0] (az (aF 1 [:1]) (az (aF 1 [:2]) (az (aF 1 [:3]) (aC)))))))) (aO)) (aE (aZ (aH (aD b_ (aF 1 [:0]) (fC (.str "go")))) (eG (xK (.ins false "House" kr) 0 (qk pc [0] (az (aF 1 [:1]) (aC)))) (aJ (fK (.ins false "House" kr) 0 (ni sA [0] (az (aF 1 [:1]) (aC)))))) (aO)) (aE (aZ (aH (aD b_ (aF 1 [:0]) (fC (.str "dry")))) (eG (xK (.ins false "House" kr) 0 (qk o_ [0] (aC))) (aJ (fK (.ins false "House" kr) 0 (ni rZ [0] (aC))))) (aO)) (eG (xK (.ins false "House" kr) 0 (qk p5 [0] (aC))) (aJ (fK (.ins false "House" kr) 0 (ni sI [0] (aC))))))))
def w_:ll->k7->ln:=dB 2 1 1 vo
def p6:ll->k7->Option (Str×ll):=xL 2 1 1 vo
def xa:FS:=aE (aI 2 (bE (az (fC (.str "refused")) (az (fC (.str "")) (aC))))) (aE (j_ (eG (qk p6 [0] (az (aB 1) (aC))) (aJ (ni w_ [0] (az (aB 1) (aC))))) 3 2 jN) (aJ (aB 2)))
def xo:ll->k7->ln:=dB 4 1 1 xa
def OI:ll->k7->Option (Str×ll):=xL 4 1 1 xa
def pA:FS:=aE (zy 1 [3,4,5,6]) (aE (aI 7 (e7 sy (az (aB 3) (az (gO (.al 4) 1 1) (az (aB 2) (aC)))))) (aE (aI 8 (ni xo [0] (az (aB 2) (aC)))) (aE (aZ (aH (aD jS (aB 7) (fC (.str "")))) (aJ (e7 rC (az (aB 8) (az (bE (az (fC (.str "refused")) (az (aB 7) (aC)))) (aC))))) (aO)) (aE (aZ (aH (aD b_ (aF 2 [:0]) (fC (.str "back")))) (aE (aI 9 (hC (.al 5) 1 2)) (aE (wu 1 0 (aF 9 [:0])) (aE (wu 1 3 (aF 9 [:1])) (aJ (e7 rC (az (aB 8) (az (hC (.al 4) 1 1) (aC)))))))) (aO)) (aE (aI 10 (e7 xl (az (aB 3) (az (aB 2) (az (dH false (aD jw [:1] (e7 dM (az (aL (kj (cV (aB 4)) [] (aH (aD b_ (aF 0 [:0]) (fC (.str "put")))) (aB 0))) (aC))))) (aC)))))) (aE (j4 (wz (.al 5) 1 2 (bE (az (aB 3) (az (aB 6) (aC)))))) (aE (j4 (wz (.al 4) 1 1 (aB 2))) (aE (wu 1 0 (aF 10 [:0])) (aE (aZ (aH (aD b_ (aF 2 [:0]) (fC (.str "dry")))) (aE (aI 11 (e7 dM (az (e7 Cd (az (aB 6) (aC))) (aC)))) (wu 1 3 (aL (cM (aB 6) (aL (iy (az (bE (az (aB 11) (az (aD jw (aB 11) (aD cO (aF 10 [:1]) [:1])) (az (e7 wJ (az (aB 3) (aC))) (aC))))) (aC)))))))) (aO)) (aJ (e7 pb (az (aB 8) (az (aF 10 [:1]) (aC))))))))))))))
def yd:ll->k7->ln:=dB 12 2 1 pA
def OJ:ll->k7->Option (Str×ll):=xL 12 2 1 pA
variable{ags:ll}
def pB{p:Nat}{t:ll}(h1:ags.length=p)(h2:ds.length=ar)(D:g (mh n ags ds)=↑(.xc c,e))(I:fT e 0 (List.range p)=↑t):xL n p ar g ags ds=↑(c,t):=by
 unfold xL;rw[aq ⟨h1,h2⟩,D];dsimp only;rw[I];rfl
variable{a:Int}
theorem OK{l:Int}(D:fV s.1 k.length a h l=↑c)(g:s.1.length<=5):oX [hA k (p++[s])] [↥a,↥h,↥l]=↑(c,[hA k (p++[s])]):=by
 have I:=wj (k:=k) (p:=p) (s:=s);have Y:mh 7 [hA k (p++[s])] [↥a,↥h,↥l]=[↑(.ag kH ↑0 (hP k (p++[s]))),!↥a,!↥h,!↥l,none,none,none]:=rfl;have k5:=zd (k.map dD);rw[ah] at k5;refine pB (e:=[↑(.ag kH ↑0 (hP k (p++[s]))),!↥a,!↥h,!↥l,!aG s.1,none,none]) rfl rfl ?_ rfl;rw[Y];unfold fV at D;have U:=GU s.1 ∅;split at D
 ·cases D
  rename_i Z;have k1:=Cz (ss:=s.1) (a:=a) Z;simp[yi,hI,gP,qj,I,qc,k1]
 have k1:=p3 (ss:=s.1) (a:=a) ∅ ∅;split at D
 ·cases D
  rename_i b;have k2:=O1 (h:=h) b;simp[yi,hI,gP,qj,I,qc,qm,k1,k2]
 have k2:=GS (h:=h) ∅ ∅;split at D
 ·cases D
  rename_i d;have k3:=GT (h:=l) d;simp[yi,hI,gP,qj,I,qc,qm,k1,k2,k3]
 have k3:=wU (h:=l) ∅ ∅;split at D
 ·rename_i V
  rw[aq V] at U;split at D
  ·cases D
  ·cases D
   rename_i f;rw[b7 f] at k5;simp[yi,hI,gP,qj,I,qc,qm,k1,k2,k3,U,fN,yr,k5]
 ·cases D
  rename_i V;rw[b7 V] at U;simp[yi,hI,gP,qj,I,qc,qm,k1,k2,k3,U]
def wp(ss:lx)(n:Nat)(a m l:Int):ka:=if a<1\/(ss.length:Int)<a then some "UnknownStack" else if (ss.getD (a.toNat-1) []).length=0 then some "EmptyStack" else if m<1\/((ss.getD (a.toNat-1) []).length:Int)<m then some "UnknownPlace" else if l<0\/100<l then some "BadLoss" else if n<60 then none else some "DeedsFull"
def kL(ss:lx)(n:Nat)(a:Int):ka:=if a<1\/(ss.length:Int)<a then some "UnknownStack" else if (ss.getD (a.toNat-1) []).length=0 then some "EmptyStack" else if n<60 then none else some "DeedsFull"
def gQ(ss:lx)(n:Nat):ka:=if 0<ss.flatten.length then(if n<60 then none else some "DeedsFull") else some "NothingWaits"
theorem xb(h:¬(a<1\/(ss.length:Int)<a)):ss[a.toNat-1]?=↑(ss.getD (a.toNat-1) []):=by
 rw[bn,am ∅];rfl
theorem C5(D:kL s.1 k.length a=↑c)(Z:s.1.length<=5):pc [hA k (p++[s])] [↥a]=↑(c,[hA k (p++[s])]):=by
 have I:=wj (k:=k) (p:=p) (s:=s);have k5:=zd (k.map dD);rw[ah] at k5;refine pB (e:=[↑(.ag kH ↑0 (hP k (p++[s]))),!↥a,!aG s.1]) rfl rfl ?_ rfl;rw[show mh 3 [hA k (p++[s])] [↥a]=[↑(.ag kH ↑0 (hP k (p++[s]))),!↥a,none] from rfl];unfold kL at D;split at D
 ·cases D
  rename_i U;have k1:=Cz (ss:=s.1) (a:=a) U;simp[nw,hI,gP,qj,I,qc,qm,k1]
 rename_i U;have k1:=p3 (ss:=s.1) (a:=a) ∅ ∅;have k2:=wZ (xb U) ∅ ∅;rw[show((a.toNat:Nat):Int)=a by lia] at k2;split at D
 ·cases D
  rename_i V;rw[aq V] at k2;simp[nw,hI,gP,qj,I,qc,qm,k1,k2]
 rename_i V;rw[b7 V] at k2;split at D
 ·cases D
 ·cases D
  rename_i Y;rw[b7 Y] at k5;simp[nw,hI,gP,qj,I,qc,qm,k1,k2,fN,yr,k5]
theorem OM{m l:Int}(I:wp s.1 k.length a m l=↑c)(n:s.1.length<=5):pw [hA k (p++[s])] [↥a,↥m,↥l]=↑(c,[hA k (p++[s])]):=by
 have U:=wj (k:=k) (p:=p) (s:=s);have k5:=zd (k.map dD);rw[ah] at k5;have f:mh 8 [hA k (p++[s])] [↥a,↥m,↥l]=[↑(.ag kH ↑0 (hP k (p++[s]))),!↥a,!↥m,!↥l,none,none,none,none]:=rfl;suffices Z:∃g,xm (mh 8 [hA k (p++[s])] [↥a,↥m,↥l])=↑(.xc c,[↑(.ag kH ↑0 (hP k (p++[s]))),!↥a,!↥m,!↥l,!aG s.1,g,none,none]) from let ⟨_,Z⟩:=Z;pB rfl rfl Z rfl;rw[f];unfold wp at I;split at I
 ·cases I
  rename_i V;have k1:=Cz (ss:=s.1) (a:=a) V;exact⟨_,by simp[xm,hI,gP,qj,U,qc,qm,k1];rfl⟩
 rename_i V;have k1:=p3 (ss:=s.1) (a:=a) ∅ ∅;have k2:=wZ (xb V) ∅ ∅;have Y:=wt (xb V) ∅;rw[show((a.toNat:Nat):Int)=a by lia] at k2 Y;split at I
 ·cases I
  rename_i b;rw[aq b] at k2;generalize aG s.1=SL at *;exact⟨_,by simp[xm,hI,gP,qj,U,qc,qm,k1,k2];rfl⟩
 rename_i b;rw[b7 b] at k2;have k3:=Hc (t:=s.1.getD (a.toNat-1) []) (m:=m);unfold aG at *;split at I
 ·cases I
  rename_i d;rw[aq d] at k3;generalize (s.1.getD (a.toNat-1) []).map sD=TL at *;exact⟨_,by simp[xm,hI,gP,qj,U,qc,qm,k1,k2,Y,k3];rfl⟩
 rename_i d;rw[b7 d] at k3;generalize (s.1.getD (a.toNat-1) []).map sD=TL at *;generalize (s.1.map λs=>D.lst (s.map sD))=SL at *;split at I
 ·cases I
  rename_i i;have e:=GT (h:=l) i;exact⟨_,by simp[xm,hI,gP,qj,U,qc,qm,k1,k2,Y,k3,e];rfl⟩
 have e:=wU (h:=l) ∅ ∅;split at I
 ·cases I
 ·cases I
  rename_i j;rw[b7 j] at k5;exact⟨_,by simp[xm,hI,gP,qj,U,qc,qm,k1,k2,Y,k3,e,fN,yr,k5];rfl⟩
theorem ON(D:gQ s.1 k.length=↑c)(Y:s.1.length<=5):o_ [hA k (p++[s])] []=↑(c,[hA k (p++[s])]):=by
 have U:=wj (k:=k) (p:=p) (s:=s);have k5:=zd (k.map dD);rw[ah] at k5;have k1:=G_ s.1 ∅;refine pB (e:=[↑(.ag kH ↑0 (hP k (p++[s]))),!aG s.1,none,none,none,none]) rfl rfl ?_ rfl;rw[show mh 6 [hA k (p++[s])] []=[↑(.ag kH ↑0 (hP k (p++[s]))),none,none,none,none,none] from rfl];unfold gQ at D;split at D
 ·rename_i I
  rw[aq I] at k1;split at D
  ·cases D
  ·cases D
   rename_i V;rw[b7 V] at k5;simp[oZ,hI,gP,qj,U,qc,qm,k1,fN,yr,k5]
 ·cases D
  rename_i I;rw[b7 I] at k1;simp[oZ,hI,gP,qj,U,qc,qm,k1]
def x3(D:ps[j]?=↑(.o ds)):oa (.at kH) 0 j (↑(.ag kH ↑0 ps)::e)=↑ds:=GN rfl D
variable{s':Hs}
theorem OO{d:eT}:p5 [hA (k++[d]) (p++[s]++[s'])] []=none/\sI [hA (k++[d]) (p++[s]++[s'])] []=↑(dD d,[hA k (p++[s])]):=by
 have V:mh 1 [hA (k++[d]) (p++[s]++[s'])] []=[↑(.ag kH ↑0 (hP (k++[d]) (p++[s]++[s'])))]:=rfl;have h1:oa (.at kH) 0 0 [↑(.ag kH ↑0 (hP (k++[d]) (p++[s]++[s'])))]=↑(k.map dD++[dD d]):=by rw[x3 (j:=0) rfl];simp
 have h2:oa (.at kH) 0 1 [↑(.ag kH ↑0 (hP (k++[d]) (p++[s]++[s'])))]=↑((p++[s]).map dC++[dC s']):=by rw[x3 (j:=1) rfl];simp
 have I:sH (mh 1 [hA (k++[d]) (p++[s]++[s'])] [])=↑(.rt (dD d),[↑(.ag kH ↑0 (hP k (p++[s])))]):=by
  rw[V];have Y:∀(l:k7) (x:D),(l++[x])[(l++[x]).length-1]?=↑x:=λl x=>by simp
  have Z:∀(l:k7) (x:D),(l++[x]).dropLast=l:=λl x=>by simp
  have a:¬(((k.map dD++[dD d]).length:Nat):Int)=0:=by simp;lia
  have U:oa (.at kH) 0 0 [↑(.ag kH ↑0 [.o (k.map dD++[dD d]),.o ((p++[s]).map dC)])]=↑(k.map dD++[dD d]):=x3 (j:=0) rfl;unfold hP at *;rw[show((k++[d]).map dD)=k.map dD++[dD d] by simp,show((p++[s]++[s']).map dC)=(p++[s]).map dC++[dC s'] by simp] at *;generalize (p++[s]).map dC=PL at *;simp only[sH,aE,aZ,aH,aD,gO,h1,ai,ac,fC,b_,a,iq,cj,f8,aO,j4,hC,ae,h2,Y,Z,setP,aw,av,U,aJ]
 exact⟨by unfold p5 xL;rw[aq ⟨rfl,rfl⟩,I],by unfold sI dB;rw[aq ⟨rfl,rfl⟩,I];rfl⟩
def OP:p5 [hA [] p] []=↑(("NothingDone" : Str),[hA [] p]):=by
 have h1:oa (.at kH) 0 0 [↑(.ag kH ↑0 (hP [] p))]=↑[]:=x3 (j:=0) rfl;refine pB (e:=[↑(.ag kH ↑0 (hP [] p))]) rfl rfl ?_ rfl;rw[show mh 1 [hA [] p] []=[↑(.ag kH ↑0 (hP [] p))] from rfl];simp[sH,gO,h1,show(((0:Nat):Int)=0) from rfl,n8]
inductive iY where
 |d (x:eT) |back
def cD:iY->D
 | .d x=>dD x | .back=>.tup [.str "back"]
def cW(ss:lx)(n:Nat):iY->ka
 | .d (.put a h l)=>fV ss n a h l
 | .d (.tell a m l)=>wp ss n a m l
 | .d (.go a)=>kL ss n a | .d .dry=>gQ ss n | .back=>if n=0 then some "NothingDone" else none
def fW(o:ka):Str:=match o with |none=>"" |some c=>(oG c).getD ""
theorem OQ(V:ss.length<=1000)(e:DE0):e7 fL (az (aL (kj (cV (aB 0)) [] cA (j6 0))) aC) (⇑(aG ss)::e)=↑(.int (ss.flatten.length:Int),⇑(aG ss)::e):=by
 have c:=ud (te:=j6 0) (base:=[]) (λs:lu=>D.lst (s.map sD)) (λs:lu=>D.int (s.length:Int)) ss λs _=>⟨_,by simp;rfl⟩;have I:=oM (λs:lu=>(s.length:Int)) ss;have U:bS (ss.map λs=>D.lst (s.map sD)).length:=few (by rw[ah];lia);rw[G8] at I;unfold aG;generalize (ss.map λs=>D.lst (s.map sD))=L at *;simp only[e7,az,aL,kj,cV,aB,aC,ae,ac,ai,U,dh,dm,c,I]
def Rt(r:Option (Fl×DE0))(x:Str):Prop:=∃e',r=↑(.rt (.str x),e')
section
variable {c p q:FT} {f g:FE} {u v w:FS} {e:DE0} {i:Nat} {d:D} {x y:Str} {A B:Prop} [Decidable A] [Decidable B] {a b:Int}
def kE(h:f e=↑(d,e))(k:Rt (u (e.set i ⇑d)) x):Rt (aE (aI i f) u e) x:=by
 rw[show aE (aI i f) u e=u (e.set i ⇑d) by simp[h]];exact k
def sJ(h:c e=↑(false,e))(k:Rt (aE v w e) x):Rt (aE (aZ c u v) w e) x:=by
 rw[show aE (aZ c u v) w e=aE v w e by simp[h]];exact k
def OT(h:c e=↑(true,e))(k:Rt (aE u w e) x):Rt (aE (aZ c u v) w e) x:=by
 rw[show aE (aZ c u v) w e=aE u w e by simp[h]];exact k
def x4(h:c e=↑(decide A,e))(k:A->y=x)(k':¬A->Rt (aE v w e) x):Rt (aE (aZ c (aJ (fC (.str y))) v) w e) x:=by
 by_cases z:A
 ·exact⟨e,by simp[h,z,k z]⟩
 ·exact sJ (by rw[h,em z]) (k' z)
def eU(h:c e=↑(false,e))(k:Rt (w e) x):Rt (aE (aZ c u aO) w e) x:=sJ h k
def hJ(h:c e=↑(decide A,e))(k:A->y=x)(k':¬A->Rt (w e) x):Rt (aE (aZ c (aJ (fC (.str y))) aO) w e) x:=x4 h k k'
def ny(h:p e=↑(decide A,e))(h':¬A->q e=↑(decide B,e)):fS p q e=↑(decide (A\/B),e):=by
 by_cases z:A
 ·simp[h,z]
 ·simp[h,h' z,z]
def fX(h:p e=↑(false,e)):cZ p q e=↑(false,e):=by simp[h]
def iU(h:p e=↑(true,e)):cZ p q e=q e:=by simp[h]
def n0(h:f e=↑(.int a,e))(h':g e=↑(.int b,e)):aH (aD fZ f g) e=↑(decide (a<b),e):=by simp[h,h']
def n3(h:f e=↑(.int a,e))(h':g e=↑(.int b,e)):aH (aD dQ f g) e=↑(decide (b<a),e):=by simp[h,h']
def Hh(h:f e=↑(.int a,e))(h':g e=↑(.int b,e)):aH (aD iK f g) e=↑(decide (b<=a),e):=by simp[h,h']
def C6(h:f e=↑(.int a,e))(h':g e=↑(.int b,e)):aH (aD b_ f g) e=↑(decide (a=b),e):=by simp[h,h']
end
def n4:(("put" : Str) = "back")=False/\(("put" : Str) = "dry")=False/\(("put" : Str) = "tell")=False/\(("tell" : Str) = "back")=False/\(("tell" : Str) = "dry")=False/\(("tell" : Str) = "put")=False/\(("go" : Str) = "back")=False/\(("go" : Str) = "dry")=False/\(("go" : Str) = "put")=False/\(("go" : Str) = "tell")=False/\(("dry" : Str) = "back")=False/\(("dry" : Str) = "put")=False/\(("dry" : Str) = "tell")=False:=by
 refine⟨?_,?_,?_,?_,?_,?_,?_,?_,?_,?_,?_,?_,?_⟩ <;> exact jq (by decide)
variable{x:Str}
def jG{x y z w:D}:bF [x,y,z,w] 0=↑x/\bF [x,y,z,w] 1=↑y/\bF [x,y,z,w] 2=↑z/\bF [x,y,z,w] 3=↑w:=⟨rfl,rfl,rfl,rfl⟩
theorem x5(ss:lx)(n:Nat)(c:iY)(o:ss.length<=5):sy [aG ss,↥(n:Int),cD c]=↑(.str (fW (cW ss n c))):=by
 have Z:=λe=>OQ (ss:=ss) ∅ e;suffices U:Rt (GL [!aG ss,!↥(n:Int),!cD c,none]) (fW (cW ss n c)) from let ⟨_,U⟩:=U;lm rfl U;have I:∀(d w:D),Rt (aE (aZ (aH (aD iK (aB 1) [:60])) (aJ (fC (.str "deeds full"))) (aO)) (aJ (fC (.str ""))) [!aG ss,!↥(n:Int),!d,!w]) (fW (if n<60 then none else some "DeedsFull")):=λd w =>
  hJ (Hh rfl rfl) (λh=>by rw[b7 ∅];rfl) λh=>by rw[aq ∅];exact⟨_,rfl⟩
 have V:∀r:DE0,j6 0 (⇑(aG ss)::r)=↑(.int (ss.length:Int),⇑(aG ss)::r):=λr=>by unfold aG;simp
 have len1:∀(d:D) (w:D) (a:Int),aF 2 [:1] [!aG ss,!↥(n:Int),!d,!w]=↑(.int a,[!aG ss,!↥(n:Int),!d,!w])->¬(a<1\/(ss.length:Int)<a)->e7 dM (az (aF 0 (aD bA (aF 2 [:1]) [:1])) aC) [!aG ss,!↥(n:Int),!d,!w]=↑(.int ((ss.getD (a.toNat-1) []).length:Int),[!aG ss,!↥(n:Int),!d,!w]):=λd w a h b=>by
  have g:=wt (xb b) ∅;rw[show((a.toNat:Nat):Int)=a by lia] at g;have Y:∀F:FE,F [!aG ss,!↥(n:Int),!d,!w]=↑(.int (a-1),[!aG ss,!↥(n:Int),!d,!w])->e7 dM (az (aF 0 F) aC) [!aG ss,!↥(n:Int),!d,!w]=↑(.int ((ss.getD (a.toNat-1) []).length:Int),[!aG ss,!↥(n:Int),!d,!w]):=λF f=>by
   unfold aG at *;simp only[e7,az,aF,f,aC,bT,ae,g,dM,ac,ai,ah]
  refine Y _ ?_;simp only[aD,h,fC,bA,ac,ai]
 cases c with
 |back =>
   refine kE (d:=.str "back") rfl ?_;by_cases z:n=0
   ·subst z;exact⟨_,rfl⟩
   ·have i:((n:Int)=0)=False:=jq ∅
    refine⟨[!aG ss,!↥(n:Int),!cD .back,!.str "back"],?_⟩;rw[show fW (cW ss n .back) = "" by unfold cW;rw[b7 z];rfl];generalize aG ss=SL at *;have j:cO (.lst [.str "",.str "nothing done"]) ↥0=↑(.str ""):=rfl;simp only[aE,aZ,aH,aD,aB,fC,b_,aw,av,af,ae,ac,ai,ii,dh,aJ,aL,iy,az,aC,e7,ao,ce,show 0+1+1<=64 by decide,i,iq,jT,j];rfl
 |d x =>
   cases x with
   |dry =>
     refine kE (d:=.str "dry") rfl (eU (by rfl) (OT (by rfl) ?_));show Rt _ (fW (gQ ss n));unfold gQ;refine hJ (by exact C6 (Z _) rfl) (λz=>by rw[b7 ∅];rfl) λz=>?_;rw[aq ∅];refine eU (by exact fX rfl) (eU (by exact fX rfl) (eU (by exact fX rfl) (eU (by exact fX rfl) ?_)));exact I _ _
   |put a h l =>
     refine kE (d:=.str "put") rfl (eU (by rfl) (sJ (by rfl) ?_));show Rt _ (fW (fV ss n a h l));unfold fV;refine x4 (by exact ny (n0 (a:=a) rfl rfl) λ_=>n3 (a:=a) rfl (V _)) (λz=>by rw[aq z];rfl) λz=>?_;rw[b7 z];refine eU (by exact fX rfl) (eU (by exact fX rfl) ?_);refine hJ (by exact(iU rfl).trans (ny (n0 (a:=h) rfl rfl) λ_=>n3 (a:=h) rfl rfl)) (λz=>by rw[aq z];rfl) λz=>?_;rw[b7 z];refine hJ (by exact(iU rfl).trans (ny (n0 (a:=l) rfl rfl) λ_=>n3 (a:=l) rfl rfl)) (λz=>by rw[aq z];rfl) λz=>?_;rw[b7 z];refine hJ (by exact(iU rfl).trans (Hh (Z _) rfl)) (λz=>by rw[b7 ∅];rfl) λz=>?_;rw[aq ∅];exact I _ _
   |tell a m l =>
     refine kE (d:=.str "tell") rfl (eU (by rfl) (sJ (by rfl) ?_));show Rt _ (fW (wp ss n a m l));unfold wp;refine x4 (by exact ny (n0 (a:=a) rfl rfl) λ_=>n3 (a:=a) rfl (V _)) (λz=>by rw[aq z];rfl) λz=>?_;rw[b7 z];refine hJ (by exact(iU rfl).trans (C6 (len1 _ _ a rfl z) rfl)) (λz=>by rw[aq ∅];rfl) λk=>?_;rw[b7 ∅];refine hJ (by exact(iU rfl).trans (ny (n0 (a:=m) rfl rfl) λ_=>n3 (a:=m) rfl (len1 _ _ a rfl z))) (λz=>by rw[aq z];rfl) λz=>?_;rw[b7 z];refine eU (by exact fX rfl) ?_;refine hJ (by exact(iU rfl).trans (ny (n0 (a:=l) rfl rfl) λ_=>n3 (a:=l) rfl rfl)) (λz=>by rw[aq z];rfl) λz=>?_;rw[b7 z];refine eU (by exact fX rfl) ?_;exact I _ _
   |go a =>
     refine kE (d:=.str "go") rfl (eU (by rfl) (sJ (by rfl) ?_));show Rt _ (fW (kL ss n a));unfold kL;refine x4 (by exact ny (n0 (a:=a) rfl rfl) λ_=>n3 (a:=a) rfl (V _)) (λz=>by rw[aq z];rfl) λz=>?_;rw[b7 z];refine hJ (by exact(iU rfl).trans (C6 (len1 _ _ a rfl z) rfl)) (λz=>by rw[aq ∅];rfl) λk=>?_;rw[b7 ∅];refine eU (by exact fX rfl) (eU (by exact fX rfl) (eU (by exact fX rfl) (eU (by exact fX rfl) ?_)));exact I _ _
def eV:iY->ll->k7->Option (Str×ll)
 | .d (.put _ _ _)=>oX | .d (.tell _ _ _)=>pw | .d (.go _)=>pc | .d .dry=>o_ | .back=>p5
def iI:iY->ll->k7->ln
 | .d (.put _ _ _)=>rY | .d (.tell _ _ _)=>sC | .d (.go _)=>sA | .d .dry=>rZ | .back=>sI
def hO:iY->k7
 | .d (.put a h l)=>[↥a,↥h,↥l] | .d (.tell a m l)=>[↥a,↥m,↥l] | .d (.go a)=>[↥a] |_=>[]
def n7{p:Nat}{t:ll}(h1:ags.length=p)(h2:ds.length=ar)(D:g (mh n ags ds)=↑(.rt d,e))(I:fT e 0 (List.range p)=↑t):dB n p ar g ags ds=↑(d,t)/\xL n p ar g ags ds=none:=by
 unfold dB xL;rw[aq ⟨h1,h2⟩,aq ⟨h1,h2⟩,D];dsimp only;rw[I];exact⟨rfl,rfl⟩
def kF(D:F (↑(.ag kH l ps)::e)=↑(ds,↑(.ag kH l ps)::e))(I:m [(kH,ps)] ds=↑(x,[(kH,ps')])):xK kH 0 (qk m [0] F) (↑(.ag kH l ps)::e)=↑(x,↑(.ag kH l ps')::e):=by
 rw[GP (i:=0) rfl];exact GY (i:=0) rfl D I
def kG(D:F (↑(.ag kH l ps)::e)=↑(ds,↑(.ag kH l ps)::e))(I:m [(kH,ps)] ds=none):xK kH 0 (qk m [0] F) (↑(.ag kH l ps)::e)=none:=by
 rw[GP (i:=0) rfl];exact GZ (i:=0) rfl D I
variable{m:ll->k7->ln}
def fR{x:D}(I:F (↑(.ag kH l ps)::e)=↑(ds,↑(.ag kH l ps)::e))(U:m [(kH,ps)] ds=↑(x,[(kH,ps')])):fK kH 0 (ni m [0] F) (↑(.ag kH l ps)::e)=↑(x,↑(.ag kH l ps')::e):=by
 rw[wT (i:=0) rfl];exact p4 (i:=0) rfl I U
def OU(c:iY)(h:eV c [(kH,ps)] (hO c)=↑(x,[(kH,ps')])):p6 [(kH,ps)] [cD c]=↑(x,[(kH,ps')]):=by
 refine pB (e:=[↑(.ag kH ↑0 ps'),!cD c]) rfl rfl ?_ rfl;rw[show mh 2 [(kH,ps)] [cD c]=[↑(.ag kH ↑0 ps),!cD c] from rfl];have sn:=n4;cases c with
 |back =>
   have V:bF [D.str "back"] 0=↑(.str "back"):=rfl;have U:(("back" : Str) = "put")=False/\(("back" : Str) = "tell")=False/\(("back" : Str) = "go")=False/\(("back" : Str) = "dry")=False:=by refine⟨?_,?_,?_,?_⟩ <;> exact jq (by decide)
   have q:=kF (l:=↑0) (F:=aC) (e:=[!cD .back]) rfl h;simp only[cD,eV] at q ⊢;simp only[vo,aE,aZ,aH,aD,aF,bT,fC,b_,ae,af,ac,ai,iq,cj,f8,aO,eG,aJ, *]
 |d y =>
   cases y with
   |put a b z =>
     have I:=jG (x:=D.str "put") (y:=.int a) (z:=.int b) (w:=.int z);have q:=kF (l:=↑0) (F:=az (aF 1 [:1]) (az (aF 1 [:2]) (az (aF 1 [:3]) aC))) (e:=[!cD (.d (.put a b z))]) rfl h;simp only[cD,dD,eV] at q ⊢;simp only[vo,aE,aZ,aH,aD,aF,bT,fC,b_,ae,af,ac,ai,ii,dh,aO,eG,aJ, *]
   |tell a b z =>
     have I:=jG (x:=D.str "tell") (y:=.int a) (z:=.int b) (w:=.int z);have q:=kF (l:=↑0) (F:=az (aF 1 [:1]) (az (aF 1 [:2]) (az (aF 1 [:3]) aC))) (e:=[!cD (.d (.tell a b z))]) rfl h;simp only[cD,dD,eV] at q ⊢;simp only[vo,aE,aZ,aH,aD,aF,bT,fC,b_,ae,af,ac,ai,ii,iq,cj,f8,dh,aO,eG,aJ, *]
   |go a =>
     have I:bF [D.str "go",↥a] 0=↑(.str "go"):=rfl;have q:=kF (l:=↑0) (F:=az (aF 1 [:1]) aC) (e:=[!cD (.d (.go a))]) rfl h;simp only[cD,dD,eV] at q ⊢;simp only[vo,aE,aZ,aH,aD,aF,bT,fC,b_,ae,af,ac,ai,ii,iq,cj,f8,dh,aO,eG,aJ, *]
   |dry =>
     have I:bF [D.str "dry"] 0=↑(.str "dry"):=rfl;have U:(("dry" : Str) = "go")=False:=jq (by decide);have q:=kF (l:=↑0) (F:=aC) (e:=[!cD (.d .dry)]) rfl h;simp only[cD,dD,eV] at q ⊢;simp only[vo,aE,aZ,aH,aD,aF,bT,fC,b_,ae,af,ac,ai,ii,iq,cj,f8,dh,aO,eG,aJ, *]
def OV(c:iY)(U:eV c [(kH,ps)] (hO c)=none)(h:iI c [(kH,ps)] (hO c)=↑(d,[(kH,ps')])):w_ [(kH,ps)] [cD c]=↑(d,[(kH,ps')])/\p6 [(kH,ps)] [cD c]=none:=by
 refine n7 (e:=[↑(.ag kH ↑0 ps'),!cD c]) rfl rfl ?_ rfl;rw[show mh 2 [(kH,ps)] [cD c]=[↑(.ag kH ↑0 ps),!cD c] from rfl];have sn:=n4;cases c with
 |back =>
   have Z:bF [D.str "back"] 0=↑(.str "back"):=rfl;have Y:(("back" : Str) = "put")=False/\(("back" : Str) = "tell")=False/\(("back" : Str) = "go")=False/\(("back" : Str) = "dry")=False:=by refine⟨?_,?_,?_,?_⟩ <;> exact jq (by decide)
   have I:=kG (l:=↑0) (F:=aC) (e:=[!cD .back]) rfl U;have q:=fR (l:=↑0) (F:=aC) (e:=[!cD .back]) rfl h;simp only[cD,eV,iI] at I q ⊢;simp only[vo,aE,aZ,aH,aD,aF,bT,fC,b_,ae,af,ac,ai,iq,cj,f8,aO,eG,aJ, *]
 |d y =>
   cases y with
   |put a b z =>
     have V:=jG (x:=D.str "put") (y:=.int a) (z:=.int b) (w:=.int z);have I:=kG (l:=↑0) (F:=az (aF 1 [:1]) (az (aF 1 [:2]) (az (aF 1 [:3]) aC))) (e:=[!cD (.d (.put a b z))]) rfl U;have q:=fR (l:=↑0) (F:=az (aF 1 [:1]) (az (aF 1 [:2]) (az (aF 1 [:3]) aC))) (e:=[!cD (.d (.put a b z))]) rfl h;simp only[cD,dD,eV,iI] at I q ⊢;simp only[vo,aE,aZ,aH,aD,aF,bT,fC,b_,ae,af,ac,ai,ii,dh,aO,eG,aJ, *]
   |tell a b z =>
     have V:=jG (x:=D.str "tell") (y:=.int a) (z:=.int b) (w:=.int z);have I:=kG (l:=↑0) (F:=az (aF 1 [:1]) (az (aF 1 [:2]) (az (aF 1 [:3]) aC))) (e:=[!cD (.d (.tell a b z))]) rfl U;have q:=fR (l:=↑0) (F:=az (aF 1 [:1]) (az (aF 1 [:2]) (az (aF 1 [:3]) aC))) (e:=[!cD (.d (.tell a b z))]) rfl h;simp only[cD,dD,eV,iI] at I q ⊢;simp only[vo,aE,aZ,aH,aD,aF,bT,fC,b_,ae,af,ac,ai,ii,iq,cj,f8,dh,aO,eG,aJ, *]
   |go a =>
     have V:bF [D.str "go",↥a] 0=↑(.str "go"):=rfl;have I:=kG (l:=↑0) (F:=az (aF 1 [:1]) aC) (e:=[!cD (.d (.go a))]) rfl U;have q:=fR (l:=↑0) (F:=az (aF 1 [:1]) aC) (e:=[!cD (.d (.go a))]) rfl h;simp only[cD,dD,eV,iI] at I q ⊢;simp only[vo,aE,aZ,aH,aD,aF,bT,fC,b_,ae,af,ac,ai,ii,iq,cj,f8,dh,aO,eG,aJ, *]
   |dry =>
     have V:bF [D.str "dry"] 0=↑(.str "dry"):=rfl;have Y:(("dry" : Str) = "go")=False:=jq (by decide);have I:=kG (l:=↑0) (F:=aC) (e:=[!cD (.d .dry)]) rfl U;have q:=fR (l:=↑0) (F:=aC) (e:=[!cD (.d .dry)]) rfl h;simp only[cD,dD,eV,iI] at I q ⊢;simp only[vo,aE,aZ,aH,aD,aF,bT,fC,b_,ae,af,ac,ai,ii,iq,cj,f8,dh,aO,eG,aJ, *]
def OW(c:iY)(h:eV c [(kH,ps)] (hO c)=↑(x,[(kH,ps)]))(D:oG x=↑w):xo [(kH,ps)] [cD c]=↑(.tup [.str "refused",.str w],[(kH,ps)]):=by
 have q:=GY (m:=p6) (F:=az (aB 1) aC) (e:=[↑(.ag kH ↑0 ps),!cD c,!(.tup [.str "refused",.str ""]),none]) (i:=0) (l:=↑0) (ps:=ps) (ds:=[cD c]) rfl rfl (OU c h);have k1:jN x=↑(.tup [.str "refused",.str w]):=by unfold jN;rw[D];rfl
 refine(n7 (e:=[↑(.ag kH ↑0 ps),!cD c,!(.tup [.str "refused",.str w]),none]) rfl rfl ?_ rfl).1;rw[show mh 4 [(kH,ps)] [cD c]=[↑(.ag kH ↑0 ps),!cD c,none,none] from rfl];simp[xa] at q ⊢;simp[j_,q,k1]
def C7(c:iY)(I:eV c [(kH,ps)] (hO c)=none)(h:iI c [(kH,ps)] (hO c)=↑(d,[(kH,ps')])):xo [(kH,ps)] [cD c]=↑(d,[(kH,ps')]):=by
 obtain⟨U,V⟩:=OV c I h;have D:=GZ (m:=p6) (F:=az (aB 1) aC) (e:=[↑(.ag kH ↑0 ps),!cD c,!(.tup [.str "refused",.str ""]),none]) (i:=0) (l:=↑0) (ps:=ps) (ds:=[cD c]) rfl rfl V;have q:=p4 (m:=w_) (F:=az (aB 1) aC) (e:=[↑(.ag kH ↑0 ps),!cD c,!(.tup [.str "refused",.str ""]),none]) (i:=0) (l:=↑0) (ps:=ps) (ds:=[cD c]) rfl rfl U;refine(n7 (e:=[↑(.ag kH ↑0 ps'),!cD c,!(.tup [.str "refused",.str ""]),none]) rfl rfl ?_ rfl).1;rw[show mh 4 [(kH,ps)] [cD c]=[↑(.ag kH ↑0 ps),!cD c,none,none] from rfl];simp[xa] at D q ⊢;simp[j_,D,q]
theorem lC(ss:lx)(U:ss.length<=1000)(e:DE0):qK (cV (aB 0)) [] (jv wv (az (aB 0) aC)) (⇑(aG ss)::e)=↑(dN ss,⇑(aG ss)::e):=by
 have c:=ET (te:=jv wv (az (aB 0) (aC))) (base:=[]) (λs:lu=>D.lst (s.map sD)) (λs:lu=>s.map sD) ss λs _=>⟨_,by simp;rfl⟩;have I:bS (ss.map λs=>D.lst (s.map sD)).length:=few (by rw[ah];lia);unfold aG dN;generalize (ss.map λs=>D.lst (s.map sD))=L at *;simp[qK,I,c]
def sK(ss:lx):D.lst ((dN ss).map D.lst)=aG ss:=by unfold dN aG;rw[gh];rfl
variable{x:Sk}
def kI{x:D}{l:k7}:bF (x::l) 0=↑x:=by unfold bF dV;simp
variable{a:Nat}{num:Int}
theorem Hi{l:Int}(V:1<=a)(g:a<=ss.length)(i:ss.length<=5)(j:(ss.getD (a-1) []).length<=1000):xl [aG ss,dD (.put a h l),↥num]=↑(.lst [aG (fO ss a (num,h,l)),↥num]):=by
 have k:=λe=>lC ss ∅ e;have Y:=jG (x:=D.str "put") (y:=.int (a:Int)) (z:=.int h) (w:=.int l);have m:((1:Int)<((0+1+1+1+1:Nat):Int))=True:=ug (by decide);have I:ss[a-1]?=↑(ss.getD (a-1) []):=by rw[bn,am ∅];rfl
 have n:dV (dN ss).length ((a:Int)-1)=↑(a-1):=by
  rw[wf ∅ (by unfold dN;rw[ah];lia)];congr 1;lia
 have Z:(dN ss).set (a-1) (((num,h,l)::ss.getD (a-1) []).map sD)=dN (fO ss a (num,h,l)):=by unfold fO dN;rw[jz]
 have b:=wt I V;have c:bS (0+1+((ss.getD (a-1) []).map sD).length):=few (by rw[ah];lia);have d:noLs (D.tup [↥num,↥h,↥l]::(ss.getD (a-1) []).map sD)=true:=Hg ((num,h,l)::ss.getD (a-1) []);have ct:xu false (cM (aL (iy (az (bE (az (aB 2) (az (aF 1 [:2]) (az (aF 1 [:3]) (aC))))) (aC)))) (aF 3 (aB 4))) [!aG ss,!dD (.put a h l),!↥num,↑(.o2 (dN ss)),!↥((a:Int)-1),none]=↑(((num,h,l)::ss.getD (a-1) []).map sD,[!aG ss,!dD (.put a h l),!↥num,↑(.o2 (dN ss)),!↥((a:Int)-1),none]):=by
  have f:frz false [!aG ss,!dD (.put a h l),!↥num,↑(.o2 (dN ss)),!↥((a:Int)-1),none]=[!aG ss,!dD (.put a h l),!↥num,!aG ss,!↥((a:Int)-1),none]:=by
   rw[<-sK];rfl
  unfold xu;rw[f,show((num,h,l)::ss.getD (a-1) []).map sD=D.tup [↥num,↥h,↥l]::(ss.getD (a-1) []).map sD from rfl];unfold aG dD;generalize (ss.getD (a-1) []).map sD=TL at *;generalize (ss.map λs=>D.lst (s.map sD))=SL at *;simp[Y,b,c,d]
 rw[<-sK (fO ss a (num,h,l)),<-Z];suffices U:∃e',ye [!aG ss,!dD (.put a h l),!↥num,none,none,none]=↑(.rt (.lst [.lst (((dN ss).set (a-1) (((num,h,l)::ss.getD (a-1) []).map sD)).map D.lst),↥num]),e') from let ⟨_,U⟩:=U;lm rfl U;simp only[dD] at ct ⊢;simp only[ye,aE,qI,aI,fC,j6,aF,bT,aB,aD,aH,aZ,aO,dQ,b_,bA,ae,af,ac,ai,av,aw,ao,ce,ii,dh,aJ,aL,iy,az,aC,yt,dF,jY,bq,dm, *];exact⟨_,rfl⟩
theorem Hj{m:Nat}{l:Int}(I:ss[a-1]?=↑t)(V:t[m-1]?=↑x)(Y:1<=a)(j:1<=m)(k:ss.length<=5):xl [aG ss,dD (.tell a m l),↥num]=↑(.lst [aG (ss.set (a-1) (t.set (m-1) (x.1,x.2.1,l))),↥x.2.2]):=by
 have n:=λe=>lC ss ∅ e;have sn:=n4;have Z:=jG (x:=D.str "tell") (y:=.int (a:Int)) (z:=.int (m:Int)) (w:=.int l);have o:bF [D.int x.1,↥x.2.1,↥x.2.2] 0=↑↥x.1/\bF [D.int x.1,↥x.2.1,↥x.2.2] 1=↑↥x.2.1/\bF [D.int x.1,↥x.2.1,↥x.2.2] 2=↑↥x.2.2:=⟨rfl,rfl,rfl⟩;have p:((1:Int)<((0+1+1+1+1:Nat):Int))=True:=ug (by decide);have b:(0+1+1<=64)=True/\(0+1+1+1<=64)=True:=⟨ug (by decide),ug (by decide)⟩;have q:=(aj.mp I).1;have r:=(aj.mp V).1;have s:dV (dN ss).length ((a:Int)-1)=↑(a-1):=by
  rw[wf ∅ (by unfold dN;rw[ah];lia)];congr 1;lia
 have c:(dN ss)[a-1]?=↑(t.map sD):=by unfold dN;rw[b8,I];rfl
 have d:dV (t.map sD).length ((m:Int)-1)=↑(m-1):=by
  rw[wf ∅ (by rw[ah];lia)];congr 1;lia
 have f:(dN ss).set (a-1) ((t.map sD).set (m-1) (.tup [↥x.1,↥x.2.1,↥l]))=dN (ss.set (a-1) (t.set (m-1) (x.1,x.2.1,l))):=by
  unfold dN;rw[jz,jz];rfl
 have g:=wt I Y;have h:bF (t.map sD) ((m:Int)-1)=↑(sD x):=by
  rw[show(m:Int)-1=((m-1:Nat):Int) by lia];exact m9 sD V
 have ct:dH false (aD cO (aF 3 (aB 4)) (aD bA (aF 1 [:2]) [:1])) [!aG ss,!dD (.tell a m l),!↥num,↑(.o2 (dN ss)),!↥((a:Int)-1),none]=↑(sD x,[!aG ss,!dD (.tell a m l),!↥num,↑(.o2 (dN ss)),!↥((a:Int)-1),none]):=by
  have i:frz false [!aG ss,!dD (.tell a m l),!↥num,↑(.o2 (dN ss)),!↥((a:Int)-1),none]=[!aG ss,!dD (.tell a m l),!↥num,!aG ss,!↥((a:Int)-1),none]:=by
   rw[<-sK];rfl
  unfold dH;rw[i];unfold aG dD;simp[Z,g,h];rfl
 rw[<-sK (ss.set (a-1) (t.set (m-1) (x.1,x.2.1,l))),<-f];suffices U:∃e',ye [!aG ss,!dD (.tell a m l),!↥num,none,none,none]=↑(.rt (.lst [.lst (((dN ss).set (a-1) ((t.map sD).set (m-1) (.tup [↥x.1,↥x.2.1,↥l]))).map D.lst),↥x.2.2]),e') from let ⟨_,U⟩:=U;lm rfl U;simp only[dD,sD] at ct ⊢;simp only[ye,aE,qI,aI,fC,j6,aF,bT,aB,aD,aH,aZ,aO,dQ,b_,bA,ae,af,ac,ai,av,aw,ao,ce,ii,iq,cj,f8,dh,aJ,aL,iy,az,aC,yt,dF, *];simp only[uS,bE];simp only[fC,aF,bT,aB,aD,bA,ae,af,ac,ai,av,aw,ao,ce,dh,az,aC,dF,jY,bq,dm, *];exact⟨_,rfl⟩
theorem Hk{v1 v2:la}(V:ss[a-1]?=↑(x::tl))(Y:1<=a)(i:ss.length<=5)(Z:tl.length<=1000) :
  ∃e',(aE (aI 5 (dH false (aD cO (aF 3 (aB 4)) [:0]))) (aE (yt 3 (aB 4) (xu false (gT (aF 3 (aB 4)) (gK [:1]) (iL)))) (aJ (aL (iy (az (aB 3) (az (aB 5) (aC)))))))) [!aG ss,v1,v2,↑(.o2 (dN ss)),!↥((a:Int)-1),none]=↑(.rt (.lst [aG (ss.set (a-1) tl),sD x]),e'):=by
 have j:=(aj.mp V).1;have b:dV (dN ss).length ((a:Int)-1)=↑(a-1):=by
  rw[wf ∅ (by unfold dN;rw[ah];lia)];congr 1;lia
 have c:(dN ss).set (a-1) (tl.map sD)=dN (ss.set (a-1) tl):=by unfold dN;rw[jz]
 have I:=wt V Y;have d:bF (sD x::tl.map sD) 0=↑(sD x):=kI;have cd:=v_ (sD x::tl.map sD) 1 ⋯;have e:noLs (tl.map sD)=true:=Hg tl;have U:(0+1+1<=64)=True:=ug (by decide);have f:(frz false [!aG ss,v1,v2,↑(.o2 (dN ss)),!↥((a:Int)-1),none])[3]?=↑⇑(aG ss)/\(frz false [!aG ss,v1,v2,↑(.o2 (dN ss)),!↥((a:Int)-1),none])[4]?=↑⇑↥((a:Int)-1):=⟨Hf rfl,He rfl⟩;have g:(frz false [!aG ss,v1,v2,↑(.o2 (dN ss)),!↥((a:Int)-1),!sD x])[3]?=↑⇑(aG ss)/\(frz false [!aG ss,v1,v2,↑(.o2 (dN ss)),!↥((a:Int)-1),!sD x])[4]?=↑⇑↥((a:Int)-1):=⟨Hf rfl,He rfl⟩;have ct:dH false (aD cO (aF 3 (aB 4)) [:0]) [!aG ss,v1,v2,↑(.o2 (dN ss)),!↥((a:Int)-1),none]=↑(sD x,[!aG ss,v1,v2,↑(.o2 (dN ss)),!↥((a:Int)-1),none]):=by
  unfold dH;unfold aG at *;simp[f,I,d];rfl
 have h:xu false (gT (aF 3 (aB 4)) (gK [:1]) (iL)) [!aG ss,v1,v2,↑(.o2 (dN ss)),!↥((a:Int)-1),!sD x]=↑(tl.map sD,[!aG ss,v1,v2,↑(.o2 (dN ss)),!↥((a:Int)-1),!sD x]):=by
  unfold xu;unfold aG at *;rw[bq] at I;generalize tl.map sD=TL at *;generalize (ss.map λs=>D.lst (s.map sD))=SL at *;have cd:cutD (sD x::TL) ↑1 none=TL:=cd;simp[g,I,cd,e]
 rw[<-sK (ss.set (a-1) tl),<-c];generalize tl.map sD=TL at *;generalize dN ss=SO at *;simp only[aE,aI,ct,ai,ac,av,aw,yt,h,ae,af,dF,jY,bq,dm,aB,b,aJ,aL,iy,az,aC,ao,ce,U,dh];exact⟨_,rfl⟩
theorem Hl(U:ss[a-1]?=↑(x::tl))(V:1<=a)(Y:ss.length<=5)(I:tl.length<=1000):xl [aG ss,dD (.go a),↥num]=↑(.lst [aG (ss.set (a-1) tl),sD x]):=by
 obtain⟨e',st⟩:=Hk (v1:=⇑(dD (.go a))) (v2:=⇑↥num) U V Y I;have Z:=λe=>lC ss ∅ e;have sn:=n4;have b:bF [D.str "go",↥(a:Int)] 0=↑(.str "go")/\bF [D.str "go",↥(a:Int)] 1=↑↥(a:Int):=⟨rfl,rfl⟩;have c:((1:Int)<((0+1+1:Nat):Int))=True:=ug (by decide);refine lm (e':=e') rfl (?_:ye [!aG ss,!dD (.go a),!↥num,none,none,none]=_);rw[<-st];simp only[dD];simp[ye,Z,b,sn]
variable{v:D}
theorem Hm{u w:D}{ts:k7}(U:rH [aG ss]=↑(.lst (.tup [↥(a:Int),u,v,w]::ts)))(V:ss[a-1]?=↑(x::tl))(Y:1<=a)(Z:ss.length<=5)(I:tl.length<=1000):xl [aG ss,dD .dry,↥num]=↑(.lst [aG (ss.set (a-1) tl),sD x]):=by
 obtain⟨e',st⟩:=Hk (v1:=⇑(dD .dry)) (v2:=⇑↥num) V Y Z I;have b:=λe=>lC ss ∅ e;have sn:=n4;have c:bF [D.str "dry"] 0=↑(.str "dry"):=rfl;have d:bF (.tup [↥(a:Int),u,v,w]::ts) 0=↑(.tup [↥(a:Int),u,v,w]):=kI;have f:bF [D.int (a:Int),u,v,w] 0=↑↥(a:Int):=rfl;have g:((1:Int)<((0+1:Nat):Int))=False:=jq (by decide);refine lm (e':=e') rfl (?_:ye [!aG ss,!dD .dry,!↥num,none,none,none]=_);rw[<-st];simp only[dD];simp[ye,b,c,sn,U,d,f]
def cY(k:l1)(p:mu)(s:Hs):k9:=[.d (aG s.1),.o (k.map dD),.o (p.map dC),.d (bV s.2)]
structure SI (n i:Nat) (s:Hs):Prop where
 len:s.1.length=n
 few:s.1.flatten.length<=14
 good:∀x∈s.1.flatten,ja x
 chain:zx 0 s.2
 rate:∀x∈s.2,0<=x.2.2/\x.2.2<=100000
 sp:s.2.length<=i
 hour:wq 0 s.2<=60*s.2.length
def C8(k:l1)(s:Hs)(d:eT)(s':Hs):Prop:=cW s.1 k.length (.d d)=none/\∃ans,xl [aG s.1,dD d,↥(lg k)]=↑(.lst [aG s'.1,ans])/\match d with | .dry=>∃x:Sk,ans=sD x/\s'.2=s.2++[(cJ s.2,cJ s.2+x.2.1,aQ s.1.flatten)] |_=>s'.2=s.2
structure HI (n:Nat) (k:l1) (p:mu) (s:Hs):Prop where
 n5:n<=5
 k60:k.length<=60
 kp:p.length=k.length
 all:∀i t,(p++[s])[i]?=↑t->SI n i t
 st0:(p++[s])[0]?=↑(eF n)
 tr:∀i d t t',k[i]?=↑d->(p++[s])[i]?=↑t->(p++[s])[i+1]?=↑t'->C8 (k.take i) t d t'
def HI.at(h:HI n k p s):SI n k.length s:=h.all k.length s (by rw[<-h.kp];simp)
variable{x:Str}
def pE{x:Nat}(h:e[i]?=↑↑(.ag .ls ↑r ps))(h2:e[x]?=↑↑(.al r (vf ps j)))(D:ps[j]?=↑(.o ds)):oa (.al x) i j e=↑ds:=by
 unfold oa cX;rw[aq (show Acc.ok (.al x) e i j from⟨_,_,_,h,h2⟩),h];dsimp;rw[D]
def OX(h:c∈n9):∃w,oG c=↑w/\(w=("" : Str))=False:=by
 simp[n9] at h;rcases h with rfl |rfl |rfl |rfl |rfl |rfl |rfl |rfl |rfl |rfl |rfl |rfl |rfl <;> exact⟨_,rfl,jq (by decide)⟩
variable{c:iY}
def OY(h:cW ss n c=↑x):x∈n9:=by
 cases c with
 |back =>
   simp only[cW] at h;split at h
   ·cases h;decide
   ·cases h
 |d y =>
   cases y with
   |put a b l=>simp only[cW,fV] at h;(repeat' split at h) <;> (first |cases h) <;> decide
   |tell a b l=>simp only[cW,wp] at h;(repeat' split at h) <;> (first |cases h) <;> decide
   |go a=>simp only[cW,kL] at h;(repeat' split at h) <;> (first |cases h) <;> decide
   |dry=>simp only[cW,gQ] at h;(repeat' split at h) <;> (first |cases h) <;> decide
def OZ(hi:HI n k p s)(h:cW s.1 k.length c=↑x):eV c [hA k (p++[s])] (hO c)=↑(x,[hA k (p++[s])]):=by
 have l5:s.1.length<=5:=by rw[hi.at.len];exact hi.n5
 cases c with
 |back =>
   simp only[cW] at h;split at h
   ·cases h
    rename_i q;obtain rfl:=jx q;exact OP
   ·cases h
 |d y =>
   cases y with
   |put a b l=>exact OK h l5
   |tell a b l=>exact OM h l5
   |go a=>exact C5 h l5 |dry=>exact ON h l5
def O_(hi:HI n k p s)(h:cW s.1 k.length c=↑x):yd [hA k (p++[s]),(.ls,cY k p s)] [cD c]=↑(.bl true,[hA k (p++[s]),(.ls,cY k p s)]):=by
 obtain⟨w,I,D⟩:=OX (OY h);have rf:=x5 s.1 k.length c (by rw[hi.at.len];exact hi.n5);rw[h,show fW ↑x=w by show(oG x).getD "" = w;rw[I];rfl] at rf;have cl:=OW c (OZ hi h) I;have V:=C0 [.str "refused",.str w] (by simp[sG]) ⋯;have Y:((k.map dD).length:Int)=k.length:=by rw[ah]
 have pl:=pE (e:=[↑(.ag kH ↑0 (hP k (p++[s]))),↑(.ag .ls ↑1 (cY k p s)),!cD c,!aG s.1,↑(.al 1 0),↑(.al 1 1),!bV s.2,none,none,none,none,none]) (i:=1) (x:=4) (j:=1) (ds:=k.map dD) rfl rfl rfl;have U:=p4 (m:=xo) (F:=az (aB 2) aC) (e:=[↑(.ag kH ↑0 (hP k (p++[s]))),↑(.ag .ls ↑1 (cY k p s)),!cD c,!aG s.1,↑(.al 1 0),↑(.al 1 1),!bV s.2,!.str w,none,none,none,none]) (i:=0) (l:=↑0) (ps:=hP k (p++[s])) (ds:=[cD c]) rfl rfl cl;refine(n7 (e:=[↑(.ag kH ↑0 (hP k (p++[s]))),↑(.ag .ls ↑1 (cY k p s)),!cD c,!aG s.1,↑(.al 1 0),↑(.al 1 1),!bV s.2,!.str w,!(.tup [.str "refused",.str w]),none,none,none]) rfl rfl ?_ rfl).1;rw[show mh 12 [hA k (p++[s]),(.ls,cY k p s)] [cD c]=[↑(.ag kH ↑0 (hP k (p++[s]))),↑(.ag .ls ↑1 (cY k p s)),!cD c,none,none,none,none,none,none,none,none,none] from rfl];have un:zy 1 [3,4,5,6] [↑(.ag kH ↑0 (hP k (p++[s]))),↑(.ag .ls ↑1 (cY k p s)),!cD c,none,none,none,none,none,none,none,none,none]=↑(.nx,[↑(.ag kH ↑0 (hP k (p++[s]))),↑(.ag .ls ↑1 (cY k p s)),!cD c,!aG s.1,↑(.al 1 0),↑(.al 1 1),!bV s.2,none,none,none,none,none]):=rfl;generalize hP k (p++[s])=HP at *;generalize bV s.2=SP at *;rw[<-Y] at rf;generalize k.map dD=KL at *;simp at U;simp[pA,un,gO,pl,rf];simp[U,D,V]
theorem Hn(D:e[4]?=↑⇑(.lst (k.map dD)))(U:k.length<=1000):aD jw [:1] (e7 dM (az (aL (kj (cV (aB 4)) [] (aH (aD b_ (aF 0 [:0]) (fC (.str "put")))) (aB 0))) (aC))) e=↑(.int (lg k),e):=by
 have c:=qR (tt:=aH (aD b_ (aF 0 [:0]) (fC (.str "put")))) (te:=aB 0) (base:=[]) dD dD eT.isPut k λx _=>by
  cases x with
  |put a h l=>exact⟨_,rfl,λ_=>⟨_,rfl⟩⟩
  |tell a p l=>exact⟨_,rfl,λz=>nomatch z⟩
  |go a=>exact⟨_,rfl,λz=>nomatch z⟩ |dry=>exact⟨_,rfl,λz=>nomatch z⟩
 have I:bS (k.map dD).length:=few (by rw[ah];lia);unfold lg;generalize k.map dD=L at *;simp[kj,D,I,c]
variable{x:Sk}
def xA{x:Nat}(h:e[1]?=↑↑(.ag .ls ↑r ps))(h2:e[x]?=↑↑(.al r (vf ps j)))(D:ps[j]?=↑(.o ds))(I:f e=↑(d,e))(U:bS (ds.length+1)) :
  wz (.al x) 1 j f e=↑(.non,e.set 1 ↑(.ag .ls ↑r (ps.set j (.o (ds++[d]))))):=by
 unfold wz;rw[h];dsimp only;rw[aq (show jX .ls ↑r from⟨rfl,λ_ _ z=>nomatch z⟩),pE h h2 D,ac,I,ac];unfold kZ;rw[h];dsimp only;rw[D];dsimp only;rw[aq ⟨rfl,rfl,rfl,U⟩];unfold setP;rw[h]
def Ho:eT->Bool | .dry=>true |_=>false
variable{d:eT}{ss':lx}{ans:D}
theorem Pa(hi:HI n k p s)(hd:Ho d=false)(h:cW s.1 k.length (.d d)=none)(g:k.length<=100)(cl:xo [hA k (p++[s])] [dD d]=↑(ans,[hA (k++[d]) (p++[s]++[(ss',s.2)])]))(st:xl [aG s.1,dD d,↥(lg k)]=↑(.lst [aG ss',ans]))(I:pb [ans,ans]=↑(.bl true))(q:noL ans=true) :
  yd [hA k (p++[s]),(.ls,cY k p s)] [dD d]=↑(.bl true,[hA (k++[d]) (p++[s]++[(ss',s.2)]),(.ls,cY (k++[d]) (p++[s]) (ss',s.2))]):=by
 have rf:=x5 s.1 k.length (.d d) (by rw[hi.at.len];exact hi.n5);rw[h,show fW none = "" from rfl] at rf;have D:((k.map dD).length:Int)=k.length:=by rw[ah]
 obtain⟨w,ws,ew,hb,hdr⟩:∃w ws,dD d=.tup (.str w::ws)/\(w=("back" : Str))=False/\(w=("dry" : Str))=False:=by
  cases d with
  |put a h l=>exact⟨_,_,rfl,jq (by decide),jq (by decide)⟩
  |tell a h l=>exact⟨_,_,rfl,jq (by decide),jq (by decide)⟩
  |go a=>exact⟨_,_,rfl,jq (by decide),jq (by decide)⟩ |dry=>cases hd
 have pl:=pE (e:=[↑(.ag kH ↑0 (hP k (p++[s]))),↑(.ag .ls ↑1 (cY k p s)),!dD d,!aG s.1,↑(.al 1 0),↑(.al 1 1),!bV s.2,none,none,none,none,none]) (i:=1) (x:=4) (j:=1) (ds:=k.map dD) rfl rfl rfl;have Z:=p4 (m:=xo) (F:=az (aB 2) aC) (e:=[↑(.ag kH ↑0 (hP k (p++[s]))),↑(.ag .ls ↑1 (cY k p s)),!dD d,!aG s.1,↑(.al 1 0),↑(.al 1 1),!bV s.2,!.str "",none,none,none,none]) (i:=0) (l:=↑0) (ps:=hP k (p++[s])) (ds:=[dD d]) rfl rfl cl;have nm:dH false (aD jw [:1] (e7 dM (az (aL (kj (cV (aB 4)) [] (aH (aD b_ (aF 0 [:0]) (fC (.str "put")))) (aB 0))) (aC)))) [↑(.ag kH ↑0 (hP (k++[d]) (p++[s]++[(ss',s.2)]))),↑(.ag .ls ↑1 (cY k p s)),!dD d,!aG s.1,↑(.al 1 0),↑(.al 1 1),!bV s.2,!.str "",!ans,none,none,none]=↑(.int (lg k),[↑(.ag kH ↑0 (hP (k++[d]) (p++[s]++[(ss',s.2)]))),↑(.ag .ls ↑1 (cY k p s)),!dD d,!aG s.1,↑(.al 1 0),↑(.al 1 1),!bV s.2,!.str "",!ans,none,none,none]):=by
  unfold dH;rw[Hn (k:=k) rfl ∅];rfl
 have b:=xA (e:=[↑(.ag kH ↑0 (hP (k++[d]) (p++[s]++[(ss',s.2)]))),↑(.ag .ls ↑1 (cY k p s)),!dD d,!aG s.1,↑(.al 1 0),↑(.al 1 1),!bV s.2,!.str "",!ans,none,!(.lst [aG ss',ans]),none]) (x:=5) (j:=2) (ds:=p.map dC) (f:=bE (az (aB 3) (az (aB 6) aC))) (d:=dC s) rfl rfl rfl rfl (few (by rw[ah];have:=hi.kp;lia));have c:=xA (e:=[↑(.ag kH ↑0 (hP (k++[d]) (p++[s]++[(ss',s.2)]))),↑(.ag .ls ↑1 [.d (aG s.1),.o (k.map dD),.o (p.map dC++[dC s]),.d (bV s.2)]),!dD d,!aG s.1,↑(.al 1 0),↑(.al 1 1),!bV s.2,!.str "",!ans,none,!(.lst [aG ss',ans]),none]) (x:=4) (j:=1) (ds:=k.map dD) (f:=aB 2) (d:=dD d) rfl rfl rfl rfl (few (by rw[ah];lia));have U:bF (.str w::ws) 0=↑(.str w):=kI;have V:bF [aG ss',ans] 0=↑(aG ss')/\bF [aG ss',ans] 1=↑ans:=⟨rfl,rfl⟩;refine(n7 (e:=[↑(.ag kH ↑0 (hP (k++[d]) (p++[s]++[(ss',s.2)]))),↑(.ag .ls ↑1 (cY (k++[d]) (p++[s]) (ss',s.2))),!dD d,!aG s.1,↑(.al 1 0),↑(.al 1 1),!bV s.2,!.str "",!ans,none,!(.lst [aG ss',ans]),none]) rfl rfl ?_ rfl).1;rw[show mh 12 [hA k (p++[s]),(.ls,cY k p s)] [dD d]=[↑(.ag kH ↑0 (hP k (p++[s]))),↑(.ag .ls ↑1 (cY k p s)),!dD d,none,none,none,none,none,none,none,none,none] from rfl];have un:zy 1 [3,4,5,6] [↑(.ag kH ↑0 (hP k (p++[s]))),↑(.ag .ls ↑1 (cY k p s)),!dD d,none,none,none,none,none,none,none,none,none]=↑(.nx,[↑(.ag kH ↑0 (hP k (p++[s]))),↑(.ag .ls ↑1 (cY k p s)),!dD d,!aG s.1,↑(.al 1 0),↑(.al 1 1),!bV s.2,none,none,none,none,none]):=rfl;have Y:cY (k++[d]) (p++[s]) (ss',s.2)=[.d (aG ss'),.o (k.map dD++[dD d]),.o (p.map dC++[dC s]),.d (bV s.2)]:=by unfold cY;simp
 have rf:sy [aG s.1,↥(k.length:Int),dD d]=↑(.str ""):=rf;rw[Y];rw[<-D] at rf;unfold cY at *;generalize dD d=DD at *;subst ew;clear Y D cl;generalize hP (k++[d]) (p++[s]++[(ss',s.2)])=HP2 at *;generalize k.map dD=KL at *;simp[pA,un,gO,pl,rf];simp[Z,U,hb];simp[nm,st,b,c,wu,V,hdr,I];simp[V,U,hdr,I]
def Hq{x:Nat}{d:D}(h:e[1]?=↑↑(.ag .ls ↑r ps))(h2:e[x]?=↑↑(.al r (vf ps j)))(I:ps[j]?=↑(.o (ds++[d]))) :
  hC (.al x) 1 j e=↑(d,e.set 1 ↑(.ag .ls ↑r (ps.set j (.o ds)))):=by
 unfold hC;rw[pE h h2 I,ac,show(ds++[d])[(ds++[d]).length-1]?=↑d by simp,ai,show(ds++[d]).dropLast=ds by simp];unfold setP;rw[h]
def Pb(d:eT):∃xs,dD d=.tup xs/\(∀x∈xs,sG x)/\xs.length<=1000:=by
 cases d <;> exact⟨_,rfl,by simp[sG],by simp⟩
def Pc(hi:HI n (k++[d]) (p++[s]) s') :
  yd [hA (k++[d]) (p++[s]++[s']),(.ls,cY (k++[d]) (p++[s]) s')] [cD .back]=↑(.bl true,[hA k (p++[s]),(.ls,cY k p s)]):=by
 have h:cW s'.1 (k++[d]).length .back=none:=by simp[cW]
 have rf:=x5 s'.1 (k++[d]).length .back (by rw[hi.at.len];exact hi.n5);rw[h,show fW none = "" from rfl] at rf;obtain⟨xs,ex,Y,Z⟩:=Pb d;have U:=C0 xs Y Z;rw[<-ex] at U;have V:=OO (k:=k) (p:=p) (s:=s) (d:=d) (s':=s');have cl:=C7 .back V.1 V.2;have a:cY (k++[d]) (p++[s]) s'=[.d (aG s'.1),.o (k.map dD++[dD d]),.o (p.map dC++[dC s]),.d (bV s'.2)]:=by unfold cY;simp
 have I:((k.map dD++[dD d]).length:Int)=(k++[d]).length:=by simp
 rw[<-I] at rf;rw[a];have pl:=pE (e:=[↑(.ag kH ↑0 (hP (k++[d]) (p++[s]++[s']))),↑(.ag .ls ↑1 [.d (aG s'.1),.o (k.map dD++[dD d]),.o (p.map dC++[dC s]),.d (bV s'.2)]),!cD .back,!aG s'.1,↑(.al 1 0),↑(.al 1 1),!bV s'.2,none,none,none,none,none]) (i:=1) (x:=4) (j:=1) (ds:=k.map dD++[dD d]) rfl rfl rfl;have b:=p4 (m:=xo) (F:=az (aB 2) aC) (e:=[↑(.ag kH ↑0 (hP (k++[d]) (p++[s]++[s']))),↑(.ag .ls ↑1 [.d (aG s'.1),.o (k.map dD++[dD d]),.o (p.map dC++[dC s]),.d (bV s'.2)]),!cD .back,!aG s'.1,↑(.al 1 0),↑(.al 1 1),!bV s'.2,!.str "",none,none,none,none]) (i:=0) (l:=↑0) (ps:=hP (k++[d]) (p++[s]++[s'])) (ds:=[cD .back]) rfl rfl cl;have c:=Hq (e:=[↑(.ag kH ↑0 (hP k (p++[s]))),↑(.ag .ls ↑1 [.d (aG s'.1),.o (k.map dD++[dD d]),.o (p.map dC++[dC s]),.d (bV s'.2)]),!cD .back,!aG s'.1,↑(.al 1 0),↑(.al 1 1),!bV s'.2,!.str "",!dD d,none,none,none]) (x:=5) (j:=2) rfl rfl rfl;have f:=Hq (e:=[↑(.ag kH ↑0 (hP k (p++[s]))),↑(.ag .ls ↑1 [.d (aG s.1),.o (k.map dD++[dD d]),.o (p.map dC),.d (bV s.2)]),!cD .back,!aG s'.1,↑(.al 1 0),↑(.al 1 1),!bV s'.2,!.str "",!dD d,!(.tup [aG s.1,bV s.2]),none,none]) (x:=4) (j:=1) rfl rfl rfl;refine(n7 (e:=[↑(.ag kH ↑0 (hP k (p++[s]))),↑(.ag .ls ↑1 (cY k p s)),!cD .back,!aG s'.1,↑(.al 1 0),↑(.al 1 1),!bV s'.2,!.str "",!dD d,!(.tup [aG s.1,bV s.2]),none,none]) rfl rfl ?_ rfl).1;rw[show mh 12 [hA (k++[d]) (p++[s]++[s']),(.ls,[.d (aG s'.1),.o (k.map dD++[dD d]),.o (p.map dC++[dC s]),.d (bV s'.2)])] [cD .back]=[↑(.ag kH ↑0 (hP (k++[d]) (p++[s]++[s']))),↑(.ag .ls ↑1 [.d (aG s'.1),.o (k.map dD++[dD d]),.o (p.map dC++[dC s]),.d (bV s'.2)]),!cD .back,none,none,none,none,none,none,none,none,none] from rfl];have un:zy 1 [3,4,5,6] [↑(.ag kH ↑0 (hP (k++[d]) (p++[s]++[s']))),↑(.ag .ls ↑1 [.d (aG s'.1),.o (k.map dD++[dD d]),.o (p.map dC++[dC s]),.d (bV s'.2)]),!cD .back,none,none,none,none,none,none,none,none,none]=↑(.nx,[↑(.ag kH ↑0 (hP (k++[d]) (p++[s]++[s']))),↑(.ag .ls ↑1 [.d (aG s'.1),.o (k.map dD++[dD d]),.o (p.map dC++[dC s]),.d (bV s'.2)]),!cD .back,!aG s'.1,↑(.al 1 0),↑(.al 1 1),!bV s'.2,none,none,none,none,none]):=rfl;have g:cD .back=.tup [.str "back"]:=rfl;have q:bF [aG s.1,bV s.2] 0=↑(aG s.1)/\bF [aG s.1,bV s.2] 1=↑(bV s.2):=⟨rfl,rfl⟩;have r:bF [D.str "back"] 0=↑(.str "back"):=rfl;have es:dC s=.tup [aG s.1,bV s.2]:=rfl;unfold cY;generalize hP (k++[d]) (p++[s]++[s'])=HP2 at *;generalize dC s=SD at *;generalize cD .back=CD at *;subst g es;simp only[pA,aE,un,ac,aI,e7,az,aC,aB,gO,pl,ai,ae,af,rf,av,aw];simp[b,r];simp[c,wu,q,f,U]
def Pd(i:Int):yk [↥i]=↑(.bl true):=by
 rfl
def Hr(i:Int):pb [↥i,↥i]=↑(.bl true)/\noL ↥i=true:=by
 refine⟨?_,rfl⟩;have w:=Pd i;refine lm (e':=[!↥i,!↥i]) rfl ?_;rw[show lf 2 [D.int i,↥i]=[!↥i,!↥i] from rfl];simp only[Cs,aE,aZ,aH,fM,aB,aO,aJ,yv,e7,az,aC,w,aD,b_,ae,af,ac,ai];simp[w]
def Ht(x:Sk):pb [sD x,sD x]=↑(.bl true)/\noL (sD x)=true:=by
 refine⟨?_,rfl⟩;have w:=C0 [↥x.1,↥x.2.1,↥x.2.2] (by simp[sG]) ⋯;refine lm (e':=[!sD x,!sD x]) rfl ?_;rw[show lf 2 [sD x,sD x]=[!sD x,!sD x] from rfl];simp only[Cs,aE,aZ,aH,fM,aB,aO,aJ,e7,az,aC,sD,w,ae,af,ac,ai];simp
theorem Pe(hi:HI n k p s)(h:cW s.1 k.length (.d .dry)=none)(cl:xo [hA k (p++[s])] [dD .dry]=↑(sD x,[hA (k++[.dry]) (p++[s]++[eM s a x tl])]))(st:xl [aG s.1,dD .dry,↥(lg k)]=↑(.lst [aG (s.1.set (a-1) tl),sD x])) :
  yd [hA k (p++[s]),(.ls,cY k p s)] [dD .dry]=↑(.bl true,[hA (k++[.dry]) (p++[s]++[eM s a x tl]),(.ls,cY (k++[.dry]) (p++[s]) (eM s a x tl))]):=by
 have I:=hi.at;have l5:s.1.length<=5:=by rw[I.len];exact hi.n5
 have rf:=x5 s.1 k.length (.d .dry) l5;rw[h,show fW none = "" from rfl] at rf;have U:((k.map dD).length:Int)=k.length:=by rw[ah]
 have b:=(Ht x).1;have V:∀y∈s.1,y.length<=1000:=λy c=>by
  have h1:=I.few;have h2:=(f9 c).length_le
  lia
 have g:=OA s.1 ∅ V;have q:=I.sp;have G:=I.hour;have H:=hi.k60;have r:=OB s.2 I.chain ∅;have t:(((gL s.2).map D.int).length:Int)=cJ s.2:=by rw[ah,C3 _ _ I.chain,C2];lia
 have pl:=pE (e:=[↑(.ag kH ↑0 (hP k (p++[s]))),↑(.ag .ls ↑1 (cY k p s)),!dD .dry,!aG s.1,↑(.al 1 0),↑(.al 1 1),!bV s.2,none,none,none,none,none]) (i:=1) (x:=4) (j:=1) (ds:=k.map dD) rfl rfl rfl;have u:=p4 (m:=xo) (F:=az (aB 2) aC) (e:=[↑(.ag kH ↑0 (hP k (p++[s]))),↑(.ag .ls ↑1 (cY k p s)),!dD .dry,!aG s.1,↑(.al 1 0),↑(.al 1 1),!bV s.2,!.str "",none,none,none,none]) (i:=0) (l:=↑0) (ps:=hP k (p++[s])) (ds:=[dD .dry]) rfl rfl cl;have nm:dH false (aD jw [:1] (e7 dM (az (aL (kj (cV (aB 4)) [] (aH (aD b_ (aF 0 [:0]) (fC (.str "put")))) (aB 0))) (aC)))) [↑(.ag kH ↑0 (hP (k++[.dry]) (p++[s]++[eM s a x tl]))),↑(.ag .ls ↑1 (cY k p s)),!dD .dry,!aG s.1,↑(.al 1 0),↑(.al 1 1),!bV s.2,!.str "",!sD x,none,none,none]=↑(.int (lg k),[↑(.ag kH ↑0 (hP (k++[.dry]) (p++[s]++[eM s a x tl]))),↑(.ag .ls ↑1 (cY k p s)),!dD .dry,!aG s.1,↑(.al 1 0),↑(.al 1 1),!bV s.2,!.str "",!sD x,none,none,none]):=by
  unfold dH;rw[Hn (k:=k) rfl ∅];rfl
 have v:=xA (e:=[↑(.ag kH ↑0 (hP (k++[.dry]) (p++[s]++[eM s a x tl]))),↑(.ag .ls ↑1 (cY k p s)),!dD .dry,!aG s.1,↑(.al 1 0),↑(.al 1 1),!bV s.2,!.str "",!sD x,none,!(.lst [aG (s.1.set (a-1) tl),sD x]),none]) (x:=5) (j:=2) (ds:=p.map dC) (f:=bE (az (aB 3) (az (aB 6) aC))) (d:=dC s) rfl rfl rfl rfl (few (by rw[ah];have:=hi.kp;lia));have w:=xA (e:=[↑(.ag kH ↑0 (hP (k++[.dry]) (p++[s]++[eM s a x tl]))),↑(.ag .ls ↑1 [.d (aG s.1),.o (k.map dD),.o (p.map dC++[dC s]),.d (bV s.2)]),!dD .dry,!aG s.1,↑(.al 1 0),↑(.al 1 1),!bV s.2,!.str "",!sD x,none,!(.lst [aG (s.1.set (a-1) tl),sD x]),none]) (x:=4) (j:=1) (ds:=k.map dD) (f:=aB 2) (d:=dD .dry) rfl rfl rfl rfl (few (by rw[ah];lia));have Z:bF [D.str "dry"] 0=↑(.str "dry"):=rfl;have z:dD .dry=.tup [.str "dry"]:=rfl;have sn:=n4;have Y:bF [aG (s.1.set (a-1) tl),sD x] 0=↑(aG (s.1.set (a-1) tl))/\bF [aG (s.1.set (a-1) tl),sD x] 1=↑(sD x):=⟨rfl,rfl⟩;have A:cO (sD x) ↥1=↑↥x.2.1:=rfl;have ct:aL (cM (aB 6) (aL (iy (az (bE (az (aB 11) (az (aD jw (aB 11) (aD cO (aF 10 [:1]) [:1])) (az (e7 wJ (az (aB 3) aC)) aC)))) aC))))
   [↑(.ag kH ↑0 (hP (k++[.dry]) (p++[s]++[eM s a x tl]))),↑(.ag .ls ↑1 [.d (aG (s.1.set (a-1) tl)),.o (k.map dD++[dD .dry]),.o (p.map dC++[dC s]),.d (bV s.2)]),!dD .dry,!aG s.1,↑(.al 1 0),↑(.al 1 1),!bV s.2,!.str "",!sD x,none,!(.lst [aG (s.1.set (a-1) tl),sD x]),!↥(cJ s.2)]=↑(bV (s.2++[(cJ s.2,cJ s.2+x.2.1,aQ s.1.flatten)]),[↑(.ag kH ↑0 (hP (k++[.dry]) (p++[s]++[eM s a x tl]))),↑(.ag .ls ↑1 [.d (aG (s.1.set (a-1) tl)),.o (k.map dD++[dD .dry]),.o (p.map dC++[dC s]),.d (bV s.2)]),!dD .dry,!aG s.1,↑(.al 1 0),↑(.al 1 1),!bV s.2,!.str "",!sD x,none,!(.lst [aG (s.1.set (a-1) tl),sD x]),!↥(cJ s.2)]):=by
  have B:bS ((s.2.map sD).length+1):=few (by rw[ah];lia);have C:bV (s.2++[(cJ s.2,cJ s.2+x.2.1,aQ s.1.flatten)])=.lst (s.2.map sD++[.tup [↥(cJ s.2),↥(cJ s.2+x.2.1),↥(aQ s.1.flatten)]]):=by unfold bV;rw[bw];rfl
  rw[C];unfold bV;simp only[aL,cM,aB,iy,az,aC,bE,aD,aF,bT,fC,e7,ae,af,ac,ai,Y,A,jw,g,ao,ce,show 0+1+1+1<=64 by decide,show 0+1<=64 by decide,B,dh]
 refine(n7 (e:=[↑(.ag kH ↑0 (hP (k++[.dry]) (p++[s]++[eM s a x tl]))),↑(.ag .ls ↑1 (cY (k++[.dry]) (p++[s]) (eM s a x tl))),!dD .dry,!aG s.1,↑(.al 1 0),↑(.al 1 1),!bV s.2,!.str "",!sD x,none,!(.lst [aG (s.1.set (a-1) tl),sD x]),!↥(cJ s.2)]) rfl rfl ?_ rfl).1;rw[show mh 12 [hA k (p++[s]),(.ls,cY k p s)] [dD .dry]=[↑(.ag kH ↑0 (hP k (p++[s]))),↑(.ag .ls ↑1 (cY k p s)),!dD .dry,none,none,none,none,none,none,none,none,none] from rfl];have un:zy 1 [3,4,5,6] [↑(.ag kH ↑0 (hP k (p++[s]))),↑(.ag .ls ↑1 (cY k p s)),!dD .dry,none,none,none,none,none,none,none,none,none]=↑(.nx,[↑(.ag kH ↑0 (hP k (p++[s]))),↑(.ag .ls ↑1 (cY k p s)),!dD .dry,!aG s.1,↑(.al 1 0),↑(.al 1 1),!bV s.2,none,none,none,none,none]):=rfl;have E:cY (k++[.dry]) (p++[s]) (eM s a x tl)=[.d (aG (s.1.set (a-1) tl)),.o (k.map dD++[dD .dry]),.o (p.map dC++[dC s]),.d (bV (s.2++[(cJ s.2,cJ s.2+x.2.1,aQ s.1.flatten)]))]:=by unfold cY eM;simp
 have rf:sy [aG s.1,↥(k.length:Int),dD .dry]=↑(.str ""):=rf;rw[E];rw[<-U] at rf;unfold cY at *;generalize dD .dry=DD at *;subst z;simp only[pA,aE,un,ac,aI,e7,az,aC,aB,gO,pl,ai,ae,af,rf,av,aw];simp only[u,ai,ac,av,aw,aZ,aH,aD,aB,fC,aF,bT,ae,af,jS,b_,Z,sn,ii,iq,rj,cj,f8,aO];simp only[nm,ai,ac,e7,az,aC,aB,ae,af,av,aw,st,j4,v,w,wu,Y,aF,bT,fC];simp only[aE,aI,Z,ii,dh,e7,az,aC,aB,ae,af,av,aw,ai,ac,r,dM,t,wu,ct,aJ,aF,bT,fC,Y,b]
def C9{α:Type}:∀(ss:List (List α)) (i:Nat) (t t':List α),ss[i]?=↑t->∃A B,ss.flatten=A++(t++B)/\(ss.set i t').flatten=A++(t'++B)
 |y::r,0,t,t',h=>by
   simp at h;subst h;exact⟨[],r.flatten,rfl,rfl⟩
 |y::r,i+1,t,t',h=>by
   obtain⟨A,B,h1,h2⟩:=C9 r i t t' (by simpa using h);exact⟨y++A,B,by simp[h1],by simp[h2]⟩
theorem HI.push(h:HI n k p s)(Z:k.length<60)(V:SI n (k.length+1) s')(st:C8 k s d s'):HI n (k++[d]) (p++[s]) s':=by
 have Y:(p++[s]).length=k.length+1:=by simp[h.kp]
 have lt:∀i,i<=k.length->(p++[s]++[s'])[i]?=(p++[s])[i]?:=λi c=>bg ∅;have U:(p++[s]++[s'])[k.length+1]?=↑s':=by rw[<-Y,ml]
 refine⟨h.n5,by simp;lia,by simp[h.kp],λi t D=>?_,by rw[lt 0 ∅];exact h.st0,λi d' t t' h1 h2 I=>?_⟩
 ·by_cases c:i<=k.length
  ·exact h.all i t (lt i c ▸ D)
  ·obtain rfl:i=k.length+1:=by have:=(aj.mp D).1;simp[h.kp] at this;lia
   rw[U] at D;cases D;exact V
 ·by_cases c:i<k.length
  ·rw[iu ∅]
   exact h.tr i d' t t' (by rwa [bg c] at h1) (by rwa [lt i ∅] at h2) (by rwa [lt _ c] at I)
  ·obtain rfl:i=k.length:=by have:=(aj.mp h1).1;simp at this;lia
   rw[ml] at h1;rw[lt _ (b9 _),<-h.kp,ml] at h2;rw[U] at I;cases h1;cases h2;cases I;rw[zo];exact st
theorem HI.pop(h:HI n (k++[d]) (p++[s]) s'):HI n k p s:=by
 have kp:p.length=k.length:=by have:=h.kp;simp at this;exact this
 have I:∀ {i t},(p++[s])[i]?=↑t->(p++[s]++[s'])[i]?=↑t:=λD=>by rw[bg (aj.mp D).1];exact D
 refine⟨h.n5,by have:=h.k60;simp at this;lia,kp,λi t D=>h.all i t (I D),by have:=h.st0;rwa [bg ⋯] at this,λi d' t t' h1 h2 U=>?_⟩;have c:=(aj.mp h1).1;have:=h.tr i d' t t' (by rw[bg c];exact h1) (I h2) (I U);rwa [iu ∅] at this
theorem SI.swap{t':lu}(h:SI n i s)(I:s.1[a]?=↑t)(U:s.1.flatten.length+t'.length<=14+t.length)(V:∀x∈t',(∀y∈t,ja y)->ja x):SI n (i+1) (s.1.set a t',s.2):=by
 obtain⟨A,B,h1,h2⟩:=C9 s.1 a t t' I;have g:=h.good;rw[h1] at g U;refine⟨by rw[d9];exact h.len,?_,?_,h.chain,h.rate,uk h.sp,h.hour⟩
 ·show(s.1.set a t').flatten.length<=14
  rw[h2];simp at *
  lia
 ·intro x D
  rw[h2,dy,dy] at D;rcases D with q |q |q
  ·exact g x (by simp[q])
  ·exact V x q λy Y=>g y (by simp[Y])
  ·exact g x (by simp[q])
theorem Pf(k:l1):1<=lg k/\lg k<=k.length+1:=by
 unfold lg;have:=pq eT.isPut k
 lia
theorem Hu:∀(l:lu),(∀x∈l,ja x)->0<=aQ l/\aQ l<=100*l.length
 | [],_=>⟨by decide,by decide⟩ |x::r,h=>by
   have U:=Hu r λy D=>h y (by simp[D]);have I:=h x ⋯;unfold ja at I;have e:aQ (x::r)=x.2.2+aQ r:=by simp[aQ]
   rw[e,ao]
   lia
theorem SI.dry(h:SI n i s)(I:s.1[a-1]?=↑(x::tl)):SI n (i+1) (eM s a x tl):=by
 have q:=h.swap (t':=tl) I (by have:=h.few;rw[ao];lia) λy D U=>U y (by simp[D]);have V:ja x:=h.good x (by
  obtain⟨A,B,h1,_⟩:=C9 s.1 (a-1) (x::tl) tl I;rw[h1];simp)
 have Y:=Hu s.1.flatten h.good;have b:=h.few;have c:=h.hour;have Z:=h.sp;unfold ja at V;refine⟨q.len,q.few,q.good,?_,?_,?_,?_⟩
 ·exact Ha _ _ _ h.chain (C2 s.2) (by show cJ s.2<=cJ s.2+x.2.1;lia)
 ·intro y D
  have D:y∈s.2++[(cJ s.2,cJ s.2+x.2.1,aQ s.1.flatten)]:=D;rw[dy,d6] at D;rcases D with D |rfl
  ·exact h.rate y D
  ·show 0<=aQ s.1.flatten/\aQ s.1.flatten<=100000
   lia
 ·show(s.2++[_]).length<=i+1
  simp;lia
 ·show wq 0 (s.2++[(cJ s.2,cJ s.2+x.2.1,aQ s.1.flatten)])<=60*((s.2++[(cJ s.2,cJ s.2+x.2.1,aQ s.1.flatten)]).length:Int)
  rw[C1,C2,ak];simp
  lia
def Hv{l:List α}(h:l≠[]):∃m x,l=m++[x]:=⟨l.dropLast,l.getLast h,(List.dropLast_concat_getLast h).symm⟩
def Mv(k:l1)(p:mu)(s:Hs)(c:iY)(k':l1)(p':mu)(s':Hs):Prop:=match cW s.1 k.length c with |some _=>k'=k/\p'=p/\s'=s |none=>match c with | .back=>∃d,k=k'++[d]/\p=p'++[s'] | .d d=>k'=k++[d]/\p'=p++[s]
def jH(n:Nat)(k:l1)(p:mu)(s:Hs)(c:iY):Prop:=∃k' p' s',HI n k' p' s'/\yd [hA k (p++[s]),(.ls,cY k p s)] [cD c]=↑(.bl true,[hA k' (p'++[s']),(.ls,cY k' p' s')])/\Mv k p s c k' p' s'
protected def Mv.d(h:cW s.1 k.length (.d d)=none):Mv k p s (.d d) (k++[d]) (p++[s]) s':=by
 unfold Mv;rw[h];exact⟨rfl,rfl⟩
def HI.l5(hi:HI n k p s):s.1.length<=5:=by rw[hi.at.len];exact hi.n5
theorem HI.r14(hi:HI n k p s):∀y∈s.1,y.length<=14:=λy D=>by
 have h2:=(f9 D).length_le;have:=hi.at.few
 lia
theorem CA(hi:HI n k p s)(hd:Ho d=false)(D:k.length<60)(h:cW s.1 k.length (.d d)=none)(I:eV (.d d) [hA k (p++[s])] (hO (.d d))=none)(h1:iI (.d d) [hA k (p++[s])] (hO (.d d))=↑(ans,[hA (k++[d]) (p++[s]++[(ss',s.2)])]))(st:xl [aG s.1,dD d,↥(lg k)]=↑(.lst [aG ss',ans]))(U:pb [ans,ans]=↑(.bl true))(V:noL ans=true)(Y:SI n (k.length+1) (ss',s.2)):jH n k p s (.d d) :=
 ⟨_,_,_,hi.push D Y ⟨h,ans,st,by cases d <;> first |rfl |cases hd⟩,Pa hi hd h ∅ (C7 (.d d) I h1) st U V,Mv.d h⟩
variable{a:Int}
theorem Pg{b l:Int}(hi:HI n k p s)(h:cW s.1 k.length (.d (.put a b l))=none):jH n k p s (.d (.put a b l)):=by
 have hx:fV s.1 k.length a b l=none:=h;have D:=hx;have l5:=hi.l5;have kp:=hi.kp;have g:=hi.k60;unfold fV at D
 (repeat' split at D) <;> try cases D
 rename_i V i j m Y;obtain⟨a,rfl⟩:=kz (show 0<=a by lia);have U:=O4 (p:=p) hx l5 ∅;have I:=xb V;rw[show((a:Int).toNat-1)=a-1 by simp] at I;have o:=hi.r14 _ (bc I);have sp:=Hi (num:=lg k) (h:=b) (l:=l) (a:=a) (ss:=s.1) ∅ ∅ l5 ∅;have Z:=Pf k;have c:ja (lg k,b,l):=⟨Z.1,by show lg k<=60;lia,by show 1<=b;lia,by show b<=60;lia,by show 0<=l;lia,by show l<=100;lia⟩;have e:SI n (k.length+1) (fO s.1 a (lg k,b,l),s.2):=hi.at.swap I (by rw[ao];lia) λx hx f=>by
  rw[cr] at hx;rcases hx with hx |hx
  ·rw[hx];exact c
  ·exact f x hx
 exact CA hi rfl Y h U.1 U.2 sp (Hr _).1 rfl e
theorem Ph{m l:Int}(hi:HI n k p s)(h:cW s.1 k.length (.d (.tell a m l))=none):jH n k p s (.d (.tell a m l)):=by
 have D:wp s.1 k.length a m l=none:=h;have l5:=hi.l5;have kp:=hi.kp;have i:=hi.at.few;unfold wp at D
 (repeat' split at D) <;> try cases D
 rename_i Z b c j U;obtain⟨a,rfl⟩:=kz (show 0<=a by lia);obtain⟨m,rfl⟩:=kz (show 0<=m by lia);have I:=xb Z;rw[show((a:Int).toNat-1)=a-1 by simp] at I b c;have o:=hi.r14 _ (bc I);obtain⟨x,hx2⟩:∃x,(s.1.getD (a-1) [])[m-1]?=↑x:=⟨_,am ∅⟩;have V:=OF (k:=k) (p:=p) (s:=s) (l:=l) I hx2 ∅ ∅ ∅ ∅ U l5 ∅ ∅;have sp:=Hj (num:=lg k) (l:=l) I hx2 ∅ ∅ l5;have e:SI n (k.length+1) (s.1.set (a-1) ((s.1.getD (a-1) []).set (m-1) (x.1,x.2.1,l)),s.2):=hi.at.swap I (by rw[d9];lia) λz f Y=>by
  rcases List.mem_or_eq_of_mem_set f with q |q
  ·exact Y z q
  ·have g:=Y x (bc hx2)
   rw[q];exact⟨g.1,g.2.1,g.2.2.1,g.2.2.2.1,by show 0<=l;lia,by show l<=100;lia⟩
 exact CA hi rfl U h V.1 V.2 sp (Hr _).1 rfl e
theorem Pi(hi:HI n k p s)(h:cW s.1 k.length (.d (.go a))=none):jH n k p s (.d (.go a)):=by
 have D:kL s.1 k.length a=none:=h;have l5:=hi.l5;have kp:=hi.kp;have g:=hi.at.few;unfold kL at D
 (repeat' split at D) <;> try cases D
 rename_i b U Y;obtain⟨a,rfl⟩:=kz (show 0<=a by lia);have I:=xb b;rw[show((a:Int).toNat-1)=a-1 by simp] at I U;have V:=hi.r14 _ (bc I);obtain⟨x,tl,et⟩:∃x tl,s.1.getD (a-1) []=x::tl:=by
  cases q:s.1.getD (a-1) [] with
  |nil=>rw[q] at U;simp at U |cons x tl=>exact⟨x,tl,rfl⟩
 rw[et] at I V;have V:tl.length+1<=14:=by simpa using V
 have Z:=OD (k:=k) (p:=p) (s:=s) I ∅ Y l5 ∅;have sp:=Hl (num:=lg k) I ∅ l5 ∅;have c:SI n (k.length+1) (s.1.set (a-1) tl,s.2):=hi.at.swap I (by rw[ao];lia) λz e f=>f z (by simp[e]);exact CA hi rfl Y h Z.1 Z.2 sp (Ht x).1 rfl c
theorem Pj(hi:HI n k p s)(h:cW s.1 k.length (.d .dry)=none):jH n k p s (.d .dry):=by
 have D:gQ s.1 k.length=none:=h;have l5:=hi.l5;have kp:=hi.kp;have I:=hi.at;have U:=I.few;unfold gQ at D
 (repeat' split at D) <;> try cases D
 rename_i f Y;obtain⟨ts,ok,V⟩:=vP s.1 I.good U;have g:=vT ok V U;have i:=rM ok I.good U ∅;cases ts with
 |nil =>
   have:=ok.perm.length_eq;simp only[dm,nv,ce] at this
   lia
 |cons t ts =>
   obtain⟨a,b⟩:=t;have j:=(ok.good (a,b) ⋯).ne;cases b with
   |nil=>exact absurd rfl j |cons x r =>
     obtain⟨tl,l,h1,h2,q,_⟩:=GE ok I.good U;have Z:=hi.r14;have c:=Z _ (bc h1);have c:tl.length+1<=14:=by simpa using c
     have m:=I.sp;have e:=O9 (k:=k) (p:=p) (s:=s) g h1 h2 Y l5 ∅ (λy o=>by have:=Z y o;lia) ∅ f;have sp:=Hm (num:=lg k) i h1 h2 l5 ∅;exact⟨_,_,_,hi.push Y (I.dry h1) ⟨h,sD x,sp,x,rfl,rfl⟩,Pe hi h (C7 (.d .dry) e.1 e.2) sp,Mv.d h⟩
def Pk(c:iY)(hi:HI n k p s):jH n k p s c:=by
 cases h:cW s.1 k.length c with
 |some x=>exact⟨k,p,s,hi,O_ hi h,by unfold Mv;rw[h];exact⟨rfl,rfl,rfl⟩⟩ |none =>
 cases c with
 |back =>
   have D:k≠[]:=λe=>by subst e;simp[cW] at h
   have I:p≠[]:=λe=>by subst e;exact D (jx hi.kp.symm)
   obtain⟨k0,d,rfl⟩:=Hv D;obtain⟨U,V,rfl⟩:=Hv I;exact⟨k0,U,V,hi.pop,Pc hi,by unfold Mv;rw[h];exact⟨d,rfl,rfl⟩⟩
 |d y =>
   cases y with
   |put a b l=>exact Pg hi h
   |tell a m l=>exact Ph hi h
   |go a=>exact Pi hi h |dry=>exact Pj hi h
theorem Pl(Z:n<=5):wO [↥n]=↑(.ls,cY [] [] (eF n)):=by
 have I:bS (cG 0 n).length:=few (by rw[yg];lia);have c:=ud (te:=aL (iy aC)) (base:=[]) (λi:Nat=>D.int (0+(i:Int))) (λ_:Nat=>D.lst []) (List.range n) λi _=>⟨_,rfl⟩;have V:cG 0 n=(List.range n).map λi:Nat=>D.int (0+(i:Int)):=rfl;have Y:(List.range n).map (λ_:Nat=>D.lst [])=(List.replicate n ([]:lu)).map λs=>D.lst (s.map sD):=by rw[List.map_const',jg,tq,dm]
 have U:=vh n ∅;unfold cG at U;rw[Y] at c;rw[V] at I;unfold wO jE;rw[aq (show[D.int (n:Int)].length=1 from rfl),show lf 1 [D.int (n:Int)]=[!↥n] from rfl];simp only[Ct,uN,k_,rd,ri,mU,aL,kj,jv,az,aB,aC,iy,ae,ac,ai,U,I,dh,dm,c,ce,ib];rw[show dF [↑(Sl.sh (D.int (n:Int)))]=[!↥n] from rfl];simp only[ae,ac,ai,U,I,dh,c,ao,ce,show 0+1+1+1+1<=64 by decide];rfl
def HI.new(D:n<=5):HI n [] [] (eF n) :=
 ⟨D,by simp,rfl,λi t h=>by
  have e:i=0/\t=eF n:=by
   cases i with
   |zero=>simp at h;exact⟨rfl,h.symm⟩ |succ m=>simp at h
  obtain⟨rfl,rfl⟩:=e;have z:(eF n).1.flatten=[]:=by simp[eF]
  exact⟨by simp[eF],by rw[z];simp,by rw[z];simp,trivial,λx h=>by simp[eF] at h,by simp[eF],by simp[eF,wq]⟩,rfl,λi d t t' h=>by simp at h⟩
theorem Pm(z:Int):∃n:Nat,n<=5/\wN [↥z]=↑↥n:=by
 have h:z % 12=0\/z % 12=1\/z % 12=2\/z % 12=3\/z % 12=4\/z % 12=5\/z % 12=6\/z % 12=7\/z % 12=8\/z % 12=9\/z % 12=10\/z % 12=11:=by lia
 have q:∀r:Int,bM ↥z ↥12=↑↥r->∀v,cO (.lst [↥5,↥3,↥2,↥4,↥1,↥5,↥0,↥4,↥3,↥5,↥2,↥4]) ↥r=↑v->wN [↥z]=↑v:=λr h1 v h2=>by
  refine lm (e':=[!↥z]) rfl ?_;rw[show lf 1 [D.int z]=[!↥z] from rfl];simp only[GJ,aJ,aD,aL,iy,az,aC,fC,aB,ae,ac,ai];rw[aq (by decide)];simp only[h1,h2,ac,ai,ae]
 have m:bM ↥z ↥12=↑↥(z % 12):=by
  simp[bM]
 rcases h with h |h |h |h |h |h |h |h |h |h |h |h <;> rw[h] at m <;> exact⟨_,by decide,q _ m ↥((_:Nat):Int) rfl⟩
theorem Pn(I:ik)(c:I.length<=200):∃cs:ik,cs.length<=3*I.length/\Cu [.lst (I.map D.int)]=↑(.lst (cs.map D.int)):=by
 have loop:=zf (i:=2) (g:=wP)
  (λk e=>∃(cs:ik) (v2:la),cs.length<=3*k/\e=[!.lst (I.map D.int),↑(.ow (cs.map D.int)),v2])
  (I.map D.int) [!.lst (I.map D.int),↑(.ow []),none] ⟨[],none,by simp,rfl⟩ ?_
 ·obtain⟨e',h1,cs,v2,U,rfl⟩:=loop
  rw[ah] at U;refine⟨cs,U,?_⟩;refine lm (e':=[!.lst (I.map D.int),!.lst (cs.map D.int),v2]) rfl ?_;rw[show lf 3 [D.lst (I.map D.int)]=[!.lst (I.map D.int),none,none] from rfl];have a:bS (I.map D.int).length:=few (by rw[ah];lia);simp[GM,a,h1]
 ·rintro k d e hd ⟨cs,v2,U,rfl⟩
  obtain⟨z,b,rfl⟩:=fb.mp (bc hd);have f:k<I.length:=by have:=(aj.mp hd).1;rwa [ah] at this
  have V:bS (cs.length+1):=few ∅;have Y:bS (cs.length+1+1):=few ∅;have Z:bS (cs.length+1+1+1):=few ∅;by_cases q:z / 12 % 4=1
  ·exact⟨_,by simp[wP,c_,bM,F7,q,V,Y,Z];rfl,cs++[z,z,z],_,by simp;lia,by simp;rfl⟩
  ·exact⟨_,by simp[wP,c_,bM,F7,q,V,Y,Z];rfl,cs++[z],_,by simp;lia,by simp;rfl⟩
theorem xB(a b c d x:Int):∃v:Int,cO (.lst [↥a,↥b,↥c,↥d]) ↥(x % 4)=↑↥v:=by
 have h:x % 4=0\/x % 4=1\/x % 4=2\/x % 4=3:=by lia
 rcases h with h |h |h |h <;> rw[h] <;> exact⟨_,rfl⟩
theorem Po(x:Int):∃w:Str,bF [D.str "put",.str "put",.str "tell",.str "dry",.str "put",.str "go",.str "put",.str "put",.str "back",.str "tell",.str "put",.str "dry"] (x % 12)=↑(.str w)/\(w = "put"\/w = "tell"\/w = "go"\/w = "dry"\/w = "back"):=by
 have h:x % 12=0\/x % 12=1\/x % 12=2\/x % 12=3\/x % 12=4\/x % 12=5\/x % 12=6\/x % 12=7\/x % 12=8\/x % 12=9\/x % 12=10\/x % 12=11:=by lia
 rcases h with h |h |h |h |h |h |h |h |h |h |h |h <;> rw[h] <;> exact⟨_,rfl,by simp⟩
variable{F:FE}{v0:Int}
def Pp{c:FT}{b:Bool}(D:c e=↑(b,e))(I:e[i]?=↑⇑↥v0)(U:b=true->∃v:Int,F e=↑(.int v,e)):∃v:Int,aZ c (aI i F) aO e=↑(.nx,e.set i ⇑↥v):=by
 cases b with
 |false =>
   refine⟨v0,?_⟩;have:e.set i ⇑↥v0=e:=by
    apply ff;intro j;rw[jh];split
    ·rename_i q
     subst q;rw[I,aq (aj.mp I).1]
    ·rfl
   rw[this];simp[D]
 |true =>
   obtain⟨v,V⟩:=U rfl;exact⟨v,by simp[D,V]⟩
theorem zw(x j:Int)(h:1<=j/\j<=10000):c_ ↥x ↥j=↑↥(x / j):=by
 exact aq ⟨by lia,by lia⟩
theorem wo(x j:Int)(h:1<=j):bM ↥x ↥j=↑↥(x % j):=aq ∅
variable{t:Tn}{A:la}
def Pq{z n I o f a h l t p:D}{U:D}{A H L P:Int}(V:w = "put"\/w = "tell"\/w = "go"\/w = "dry"\/w = "back") :
  ∃c e',(aE (aZ (aH (aD b_ (aB 4) (fC (.str "put")))) (aJ (bE (az (fC (.str "put")) (az (aB 7) (az (aB 8) (az (aB 9) (aC))))))) (aO)) (aE (aZ (aH (aD b_ (aB 4) (fC (.str "tell")))) (aJ (bE (az (fC (.str "tell")) (az (aB 7) (az (aB 11) (az (aB 9) (aC))))))) (aO)) (aE (aZ (aH (aD b_ (aB 4) (fC (.str "go")))) (aJ (bE (az (fC (.str "go")) (az (aB 7) (aC))))) (aO)) (aJ (bE (az (aB 4) (aC)))))))
   [!z,!U,!n,!I,!.str w,!o,!f,!↥A,!↥H,!↥L,!t,!↥P]=↑(.rt (cD c),e'):=by
 have sn:=n4;have s2:(("back" : Str) = "put")=False/\(("back" : Str) = "tell")=False/\(("back" : Str) = "go")=False/\(("dry" : Str) = "put")=False/\(("dry" : Str) = "tell")=False/\(("dry" : Str) = "go")=False:=by
  refine⟨?_,?_,?_,?_,?_,?_⟩ <;> exact jq (by decide)
 rcases V with rfl |rfl |rfl |rfl |rfl
 ·exact⟨.d (.put A H L),_,by simp[cD,dD];rfl⟩
 ·exact⟨.d (.tell A P L),_,by simp[cD,dD,sn];rfl⟩
 ·exact⟨.d (.go A),_,by simp[cD,dD,sn];rfl⟩
 ·exact⟨.d .dry,_,by simp[cD,dD,sn,s2];rfl⟩
 ·exact⟨.back,_,by simp[cD,dD,sn,s2];rfl⟩
def nA(r:Option (Fl×DE0)):Prop:=∃c e',r=↑(.rt (cD c),e')
def gR(h:F e=↑(v,e))(k:nA (g (e.set i ⇑v))):nA (aE (aI i F) g e):=by
 rw[show aE (aI i F) g e=g (e.set i ⇑v) by simp[h]];exact k
def sL{c:FT}{b:Bool}(D:c e=↑(b,e))(I:e[i]?=↑⇑↥v0)(U:b=true->∃v:Int,F e=↑(.int v,e))(k:∀v:Int,nA (g (e.set i ⇑↥v))):nA (aE (aZ c (aI i F) aO) g e):=by
 obtain⟨v,V⟩:=Pp D I U;rw[show aE (aZ c (aI i F) aO) g e=g (e.set i ⇑↥v) by simp only[aE,V,ac]];exact k v
def CB{f:FS}{D:DE0}(h:f e=↑(.nx,D))(k:nA (g D)):nA (aE f g e):=by
 rw[show aE f g e=g D by simp[h]];exact k
theorem Pr(z:Int)(ss:lx):∃c,sx [↥z,aG ss]=↑(cD c):=by
 suffices V:nA (GK [!↥z,!aG ss,none,none,none,none,none,none,none,none,none,none]) from let ⟨c,_,V⟩:=V;⟨c,lm rfl V⟩;obtain⟨w,m,n⟩:=Po z;have Y:=zw z 12 (by decide);have Z:=wo z 12 (by decide);have U:hF ↥10 ↥12=↑↥1000000000000:=rfl;refine gR (v:=.int (ss.length:Int)) (by unfold aG;simp) ?_;refine gR (v:=.lst [.str "put",.str "put",.str "tell",.str "dry",.str "put",.str "go",.str "put",.str "put",.str "back",.str "tell",.str "put",.str "dry"]) rfl ?_;refine gR (v:=.str w) (by simp[Z,m]) ?_;refine gR (v:=.int (z / 12 % 16)) (by simp[Y,wo]) ?_;refine gR (v:=.int (z / 192)) (by simp[zw]) ?_;generalize z / 12 % 16=O at *;generalize z / 192=F at *;have e:∀(x:Int) (t:Int),∃v:Int,(match D.int x,D.int (if 1 > t then 1 else t) with | .int i,.int j=>bM ↥i ↥j |_,_=>none)=↑↥v:=λx t=>⟨_,wo x _ (by split <;> lia)⟩;obtain⟨f,o⟩:=e F ss.length;refine gR (v:=.int (1+f)) (by simp[o]) ?_;refine gR (v:=.int (F / 5)) (by simp[zw]) ?_;simp only[av,aw];generalize F / 5=G at *;refine sL (b:=decide (O=5) || decide ((ss.length:Int)=0)) (v0:=1+f) (by by_cases q:O=5 <;> simp[q]) rfl (λ_=>?_) λA=>?_
 ·obtain⟨v,I⟩:=xB 0 (ss.length+1) (-1) 1000000000000 G
  exact⟨v,by simp only[aD,aL,iy,az,aC,fC,aB,gS,dP,jw,U,wo G 4 (by decide),I,ae,af,ac,ai,ao,ce,show 0+1+1+1+1<=64 by decide,dh]⟩
 refine gR (v:=.int (1+G % 60)) (by simp[wo]) ?_;simp only[av,aw];refine sL (b:=decide (O=6)) (v0:=1+G % 60) ⋯ rfl (λ_=>?_) λH=>?_
 ·obtain⟨v,I⟩:=xB 0 61 (-1) 1000000000000 G
  exact⟨v,by simp only[aD,aL,iy,az,aC,fC,aB,gS,dP,U,wo G 4 (by decide),I,ae,af,ac,ai,ao,ce,show 0+1+1+1+1<=64 by decide,dh]⟩
 refine gR (v:=.int (G / 60 % 101)) (by simp[wo,zw]) ?_;generalize G / 60 % 101=L at *;obtain⟨H2,d,h2⟩:∃H2 d:Int,aZ (aH (aD dQ (aB 5) [:9])) (aE (aI 8 (aD jw [:1] (aD bM (aB 8) [:3]))) (aI 9 (aD bM (aB 9) [:4]))) aO [!↥z,!aG ss,!↥(ss.length:Int),!(.lst [.str "put",.str "put",.str "tell",.str "dry",.str "put",.str "go",.str "put",.str "put",.str "back",.str "tell",.str "put",.str "dry"]),!.str w,!↥O,!↥G,!↥A,!↥H,!↥L,none,none]=↑(.nx,[!↥z,!aG ss,!↥(ss.length:Int),!(.lst [.str "put",.str "put",.str "tell",.str "dry",.str "put",.str "go",.str "put",.str "put",.str "back",.str "tell",.str "put",.str "dry"]),!.str w,!↥O,!↥G,!↥A,!↥H2,!↥d,none,none]):=by
  by_cases q:9<O
  ·exact⟨1+H % 3,L % 4,by simp[q,wo]⟩
  ·exact⟨H,L,by simp[q]⟩
 refine CB h2 ?_;refine sL (b:=decide (O=7)) (v0:=d) ⋯ rfl (λ_=>?_) λs=>?_
 ·obtain⟨v,I⟩:=xB (-1) 101 (-1000000000000) 1000000000000 (G / 60)
  exact⟨v,by simp only[aD,aL,iy,az,aC,fC,aB,gS,dP,U,zw G 60 (by decide),wo (G / 60) 4 (by decide),I,ae,af,ac,ai,ao,ce,show 0+1+1+1+1<=64 by decide,dh]⟩
 refine sL (b:=decide (1<=A) && decide (A<=(ss.length:Int))) (v0:=0) (by by_cases q:1<=A <;> simp[q]) rfl (λq=>?_) λT=>?_
 ·simp only[fo,jf] at q
  have g:=wt (a:=A.toNat) (xb (ss:=ss) (a:=A) ∅) ∅;rw[show((A.toNat:Nat):Int)=A by lia] at g;exact⟨_,by unfold aG at *;simp[g];rfl⟩
 obtain⟨k,r⟩:=e (G / 6060) T;refine gR (v:=.int (1+k)) (by simp[zw G 6060 (by decide),r]) ?_;simp only[av,aw];refine sL (b:=decide (O=8)) (v0:=1+k) ⋯ rfl (λ_=>?_) λP=>?_
 ·obtain⟨v,I⟩:=xB 0 (T+1) (-1) 1000000000000 (G / 6060)
  exact⟨v,by simp only[aD,aL,iy,az,aC,fC,aB,gS,dP,jw,U,zw G 6060 (by decide),wo (G / 6060) 4 (by decide),I,ae,af,ac,ai,ao,ce,show 0+1+1+1+1<=64 by decide,dh]⟩
 exact Pq (z:=.int z) (h:=.non) (l:=.non) (a:=.non) (p:=.non) n
variable{F:FA}{l':Option Nat}
def Ps{U I:k9}{d:D}(Y:i≠j)(h:e[i]?=↑↑(.ag κ l ps))(h':e[j]?=↑↑(.ag κ' l' U))(Z:F e=↑(ds,e))(a:m [(κ,ps),(κ',U)] ds=↑(d,[(κ,ps'),(κ',I)])) :
  ni m [i,j] F e=↑(d,(e.set i ↑(.ag κ l ps')).set j ↑(.ag κ' l' I)):=by
 unfold ni;rw[aq (show fD e [i,j] from λk V=>by
  simp at V;rcases V with rfl |rfl
  ·exact⟨_,h⟩
  ·exact⟨_,h'⟩),Z]
 have b:(e.set i ↑(.ag κ l ps'))[j]?=↑↑(.ag κ' l' U):=by rw[d8 Y];exact h'
 simp[dY,h,h',a,dJ,b]
theorem Pu(cs:ik)(a b:kb):∃I:ik,cutD (cs.map D.int) a b=I.map D.int/\I.length<=cs.length:=by
 unfold cutD;rw[<-List.map_drop,<-List.map_take];exact⟨_,rfl,by simp only[fj,fm];lia⟩
def Pv(a:FS):aE a aO=a:=by
 funext e;simp;cases a e with
 |none=>rfl |some r=>obtain⟨fl,D⟩:=r;cases fl <;> rfl
abbrev EL(A B C:la)(k:l1)(p:mu)(s:Hs)(r:DE0):DE0:=A::B::C::↑(.ag kH none (hP k (p++[s])))::↑(.ag .ls none (cY k p s))::r
def xC(x:Nat)(R:FS):FS:=aE (aZ (dO (aH (ni yd [3,4] (az (e7 sx (az (aB x) (az (iF 4 0) aC))) aC)))) (aJ (fC (.bl false))) aO) R
def Pw(I:i≠j)(hi:HI n k p s)(h:e[i]?=↑↑(.ag kH l (hP k (p++[s]))))(h':e[j]?=↑↑(.ag .ls l' (cY k p s)))(U:F e=↑([cD c],e)) :
  ∃k' p' s',HI n k' p' s'/\ni yd [i,j] F e=↑(.bl true,(e.set i ↑(.ag kH l (hP k' (p'++[s'])))).set j ↑(.ag .ls l' (cY k' p' s')))/\Mv k p s c k' p' s':=by
 obtain⟨k',p',s',D,hd,V⟩:=Pk c hi;exact⟨k',p',s',D,Ps I h h' U hd,V⟩
def Px{y:Sk}(h:sD x=sD y):x=y:=by
 obtain⟨a,b,c⟩:=x;obtain⟨d,e,f⟩:=y;simp[sD] at h;simp[h]
def xD{x y:lx}(h:aG x=aG y):x=y:=by
 unfold aG at h;exact(List.map_inj_right λa b e=>(List.map_inj_right λ_ _=>Px).mp (D.lst.inj e)).mp (D.lst.inj h)
theorem Mv.len{k':l1}{p':mu}(h:Mv k p s c k' p' s'):k'.length<=k.length+1:=by
 unfold Mv at h;split at h
 ·rw[h.1];lia
 ·cases c with
  |back=>obtain⟨d,e,_⟩:=h;rw[e];simp;lia |d d=>rw[h.1];simp
theorem Hw{A B C:la}{r:DE0}{n:Nat}:∀(I:ik) (k:l1) (p:mu) (s:Hs) (v:la),HI n k p s ->
  ∃k' p' s' V,HI n k' p' s'/\k'.length<=k.length+I.length/\dE 5 (xC 5 aO) (I.map D.int) (EL A B C k p s (v::r))=↑(.nx,EL A B C k' p' s' (V::r))
 | [],k,p,s,v,hi=>⟨k,p,s,v,hi,by simp,rfl⟩ |z::I,k,p,s,v,hi=>by
   obtain⟨c,Y⟩:=Pr z s.1;have Z:iF 4 0 (EL A B C k p s (⇑↥z::r))=↑(aG s.1,EL A B C k p s (⇑↥z::r)):=rfl;obtain⟨k1,p1,U,h1,hd,a⟩:=Pw (e:=EL A B C k p s (⇑↥z::r)) (i:=3) (j:=4) (c:=c) (F:=az (e7 sx (az (aB 5) (az (iF 4 0) aC))) aC) (by decide) hi rfl rfl (by simp only[az,e7,aB,aC,Z,Y,ae,af,ac,ai]);obtain⟨k2,p2,s2,v2,h2,f,b⟩:=Hw (A:=A) (B:=B) (C:=C) (r:=r) I k1 p1 U ⇑↥z h1;have:=a.len;refine⟨k2,p2,s2,v2,h2,by rw[ao];lia,?_⟩;have d:xC 5 aO (EL A B C k p s (⇑↥z::r))=↑(.nx,EL A B C k1 p1 U (⇑↥z::r)):=by
    simp only[xC,aE,aZ,dO,aH,hd,ac,ai,rj,cj,f8,aO];rfl
   rw[bq,dE,show(EL A B C k p s (v::r)).set 5 ⇑↥z=EL A B C k p s (⇑↥z::r) from rfl,d];exact b
def flat(ts:l0):lu:=(ts.map (·.2)).flatten
def Py(ok:aM ss ts):(flat ts).length=ss.flatten.length/\aQ (flat ts)=aQ ss.flatten/\∀x∈flat ts,x∈ss.flatten:=by
 have h:=ok.perm;refine⟨h.length_eq,?_,λx D=>h.mem_iff.mp D⟩;exact Od (λx:Sk=>x.2.2) h
def Hx(ok:aM ss ts)(D:∀y∈ss.flatten,ja y)(I:ss.flatten.length<=14)(V:ss.length<=900):yo [aG ss]=↑(.lst (ts.map cE)):=by
 obtain⟨Y,U,h⟩:=vP ss D I;have e:=rM U D I V;rw[rM ok D I V] at e;rw[h,e]
theorem Pz(hi:HI n k p s)(ok:aM s.1 ts):pa [hA k (p++[s])] []=↑↥(ji 0 (flat ts)):=by
 have l5:=hi.l5;have h:=Gs ok (Hx ok hi.at.good hi.at.few ∅) hi.at.good ∅ hi.at.few;rw[BR ok] at h;exact OC h
abbrev gU:=Nat×Sk
def col(c:Nat)(L:List gU):lu:=(L.filter λe=>e.1==c).map (·.2)
def non(a:Nat)(L:List gU):lu:=(L.filter λe=>not (e.1==a)).map (·.2)
def zg(c:Nat)(x:Sk)(L:List gU):col c ((c,x)::L)=x::col c L:=by simp[col]
variable{c:Nat}
def ym{d:Nat}(h:d≠c)(x:Sk)(L:List gU):col c ((d,x)::L)=col c L:=by simp[col,h]
def CC(c:Nat)(x:Sk)(L:List gU):non c ((c,x)::L)=non c L:=by simp[non]
def xE{d:Nat}(h:d≠c)(x:Sk)(L:List gU):non c ((d,x)::L)=x::non c L:=by simp[non,h]
def Hy(c:Nat)(A B:List gU):col c (A++B)=col c A++col c B:=by simp[col]
theorem Hz(d:Int):∀(X:lu) (h:Int),ji (h+d) X=ji h X+d*aQ X
 | [],h=>by simp[ji,aQ] |x::X,h=>by
   rw[ji,ji,show h+d+x.2.1=h+x.2.1+d by lia,Hz d X,xf]
   lia
def nB(h:Int)(X:lu):ji h X=ji 0 X+h*aQ X:=by
 have:=Hz h X 0;rwa [j2] at this
def sM:∀(A B:lu) (h:Int),ji h (A++B)=ji h A+ji (h+aN A) B
 | [],B,h=>by simp[ji,aN] |x::A,B,h=>by
   rw[im,ji,ji,sM A B,va,rh h,rh]
def fH(a:Nat):Nat->List gU->List gU
 |0,L=>L |_+1,[]=>[] |n+1,e::L=>if e.1=a then fH a n L else e::fH a (n+1) L
def CF(a:Nat):∀(L:List gU) (n:Nat),col a (fH a n L)=(col a L).drop n
 | [],0=>rfl | [],n+1=>rfl |e::L,0=>rfl | (d,x)::L,n+1=>by
   by_cases h:d=a
   ·subst h
    rw[fH,aq rfl,CF d L n,zg,List.drop_succ_cons]
   ·rw[fH,b7 h,ym h,ym h]
    exact CF a L (n+1)
def xF{a c:Nat}(D:c≠a):∀(L:List gU) (n:Nat),col c (fH a n L)=col c L
 | [],0=>rfl | [],n+1=>rfl |e::L,0=>rfl | (d,x)::L,n+1=>by
   by_cases h:d=a
   ·subst h
    rw[fH,aq rfl,xF D L n,ym (Ne.symm D)]
   ·rw[fH,b7 h]
    by_cases hd:d=c
    ·subst hd;rw[zg,zg,xF D L (n+1)]
    ·rw[ym hd,ym hd,xF D L (n+1)]
theorem sN(a:Nat):∀(L:List gU) (r:lu),(∃t,col a L=r++t)->aQ (L.map (·.2))=aQ r+aQ ((fH a r.length L).map (·.2))/\aN (L.map (·.2))=aN r+aN ((fH a r.length L).map (·.2))
 |L,[],_=>by cases L <;> simp[fH,aQ,aN]
 | [],x::r,⟨t,ht⟩=>by simp[col] at ht | (d,y)::L,x::r,⟨t,ht⟩=>by
   by_cases h:d=a
   ·subst h
    rw[zg,im] at ht;obtain⟨e,D⟩:=List.cons.inj ht;subst e;obtain⟨h1,h2⟩:=sN d L r ⟨t,D⟩;rw[ao,fH,aq rfl,bq,xf,va,xf,va,h1,h2];exact⟨by lia,by lia⟩
   ·rw[ym h] at ht
    obtain⟨h1,h2⟩:=sN a L (x::r) ⟨t,ht⟩;rw[ao] at h1 h2;rw[ao,fH,b7 h,bq,bq,xf,va,xf (r:=List.map _ _),va (r:=List.map _ _),h1,h2];exact⟨by lia,by lia⟩
theorem CG(a:Nat)(W P:Int)(hP:0<P):∀(L:List gU) (r:lu) (G:Int),(∃t,col a L=r++t)->(∀e∈L,0<=e.2.2.1)->(∀u t,r=u++t->0<=P*aQ t-W*aN t)->(∀q t,L=q++t->0<=G+(W*aN (non a q)-P*aQ (non a q))) ->
  0<=P*(ji 0 (L.map (·.2))-ji 0 (r++(fH a r.length L).map (·.2)))+aN r*G
 |L,[],G,_,_,_,_=>by cases L <;> simp[fH,aN]
 | [],x::r,G,⟨t,ht⟩,_,_,_=>by simp[col] at ht | (d,y)::L,x::r,G,⟨t,ht⟩,hx,hs,hG=>by
   have c:0<=G:=by
    have:=hG [] _ rfl;simpa[non,aN,aQ] using this
   have Z:0<=y.2.1:=hx _ bi;by_cases h:d=a
   ·subst h
    rw[zg,im] at ht;obtain⟨e,D⟩:=List.cons.inj ht;subst e;have I:=CG d W P hP L r G ⟨t,D⟩ (λz V=>hx z (ay _ V)) (λu v e=>hs (y::u) v (by rw[e];rfl)) (λq v e=>by
     have:=hG ((d,y)::q) v (by rw[e];rfl);rwa [CC] at this)
    have m:=zr Z c;have U:=(sN d L r ⟨t,D⟩).1;have f:aQ (r++(fH d r.length L).map (·.2))=aQ (L.map (·.2)):=by rw[t3,U]
    rw[ao,fH,aq rfl,bq,im,ji,ji,nB (0+y.2.1) (L.map (·.2)),nB (0+y.2.1) (r++(fH d r.length L).map (·.2)),f,va];generalize ji 0 (L.map (·.2))=c1 at *;generalize ji 0 (r++(fH d r.length L).map (·.2))=c2 at *;generalize aQ (L.map (·.2))=c3 at *;have Y:P*((d,y).2.2.2*(0+(d,y).2.2.1)+(c1+(0+y.2.1)*c3)-(y.2.2*(0+y.2.1)+(c2+(0+y.2.1)*c3)))+(y.2.1+aN r)*G=(P*(c1-c2)+aN r*G)+y.2.1*G:=by dsimp only;grind
    rw[Y]
    lia
   ·rw[ym h] at ht
    have I:=CG a W P hP L (x::r) (G+(W*y.2.1-P*y.2.2)) ⟨t,ht⟩ (λz V=>hx z (ay _ V)) hs (λq v e=>by
     have:=hG ((d,y)::q) v (by rw[e];rfl);rw[xE h,va,xf,ki,ki] at this
     lia)
    have U:=(sN a L (x::r) ⟨t,ht⟩).1;have g:=hs [] (x::r) rfl;rw[ao] at I U;rw[ao,fH,b7 h,bq,bq];generalize x::r=b at *;rw[sM] at I;rw[sM,ji,ji,nB (0+_) (L.map (·.2)),U,nB (0+aN b+_)];rw[nB (0+aN b)] at I;generalize ji 0 (L.map (·.2))=c1 at *;generalize ji 0 b=c2 at *;generalize aQ ((fH a (r.length+1) L).map (·.2))=c3 at *;generalize ji 0 ((fH a (r.length+1) L).map (·.2))=c4 at *;have m:=zr Z g
    lia
theorem H5{a c:Nat}(I:c≠a):∀q:List gU,aN (non a q)=aN (col c q)+aN (non a (q.filter λe=>not (e.1==c)))/\aQ (non a q)=aQ (col c q)+aQ (non a (q.filter λe=>not (e.1==c)))
 | []=>by simp[non,col,aN,aQ] | (d,y)::q=>by
   obtain⟨h1,h2⟩:=H5 I q;by_cases hd:d=c
   ·subst hd
    rw[xE I,zg,n6 ⋯,va,va,xf,xf,h1,h2];exact⟨by lia,by lia⟩
   ·rw[ym hd,nz (by simp[hd])]
    by_cases D:d=a
    ·subst D
     rw[CC,CC];exact⟨h1,h2⟩
    ·rw[xE D,xE D,va,va,xf,xf,h1,h2]
     exact⟨by lia,by lia⟩
theorem HA(a:Nat)(W P:Int):∀(n:Nat) (q:List gU),q.length<=n->(∀c,c≠a->0<=W*aN (col c q)-P*aQ (col c q))->0<=W*aN (non a q)-P*aQ (non a q)
 |0,q,hq,_=>by
   rw[jx (Nat.le_zero.mp hq)];simp[non,aN,aQ]
 |n+1,q,hq,h=>by
   by_cases D:∃e∈q,e.1≠a
   ·obtain⟨⟨c,y⟩,U,I⟩:=D
    have I:c≠a:=I;obtain⟨h1,h2⟩:=H5 I q;have V:(q.filter λe=>not (e.1==c)).length<q.length:=by
     rw[List.length_filter_lt_length_iff_exists];exact⟨_,U,by simp⟩
    have Y:=HA a W P n (q.filter λe=>not (e.1==c)) ∅ (λd hd=>by
     by_cases e:d=c
     ·subst e
      rw[show col d (q.filter λe=>not (e.1==d))=[] by unfold col;rw[List.filter_filter,qy,i7];intro z _;simp];simp[aN,aQ]
     ·rw[show col d (q.filter λe=>not (e.1==c))=col d q by
       unfold col;rw[List.filter_filter];congr 1;apply List.filter_congr;intro z _;by_cases D:z.1=d
       ·simp[D,e]
       ·simp[D]]
      exact h d hd)
    have Z:=h c I;rw[h1,h2,ki,ki]
    lia
   ·have:non a q=[]:=by
     unfold non;rw[qy,i7]
     grind
    rw[this];simp[aN,aQ]
theorem HB{b:lu}(D:0<aN b):∀(bs:lx) (X:lu),(∀u∈bs,Good u/\(∀x∈u,ja x)/\aQ u*aN b<=aQ b*aN u)->X <+: bs.flatten->aQ X*aN b<=aQ b*aN X
 | [],X,_,h=>by
   rw[nv,List.prefix_nil] at h;subst h;simp[aN,aQ]
 |u::bs,X,hb,h=>by
   obtain⟨I,U,V⟩:=hb u bi;rw[df] at h;rcases vN h with z | ⟨t,e,ht⟩
   ·have h1:=I.beg X z
    have c:=vm u U I.ne;have Y:0<=aN X:=B7 X λx Z=>U x (z.subset Z);have d:=gi h1 (Int.le_of_lt D);have f:=gi V Y;have g:aQ X*aN b*aN u<=aQ b*aN X*aN u:=by
     lia
    simp_all
   ·subst e
    have i:=HB D bs t (λv a=>hb v (ay _ a)) ht;rw[t3,se,qg,ki]
    lia
def lD(ts:l0)(c:Nat):lu:=((ts.filter λt=>t.1==c).map (·.2)).flatten
theorem HD:∀(ts:l0) (L:List gU),ts.Pairwise B9->(∀t∈ts,Good t.2)->(∀t∈ts,∀x∈t.2,ja x)->(∀e∈L,ja e.2)->(∀c,col c L=lD ts c)->ji 0 (flat ts)<=ji 0 (L.map (·.2))/\aQ (flat ts)=aQ (L.map (·.2))
 | [],L,_,_,_,_,h=>by
   cases L with
   |nil=>exact⟨Int.le_refl _,rfl⟩ |cons e L =>
     have:=h e.1;rw[show e=(e.1,e.2) from rfl,zg] at this;simp[lD] at this
 | (a,b)::ts,L,srt,hg,hs,hL,h=>by
   have f:=gc.mp srt;have g:Good b:=hg (a,b) bi;have k:∀x∈b,ja x:=hs (a,b) bi;have V:=vm b k g.ne;have Y:col a L=b++lD ts a:=by rw[h a];simp[lD]
   have U:∀c,c≠a->col c L=lD ts c:=λc Z=>by rw[h c];simp[lD,Ne.symm Z]
   have d:∀e∈fH a b.length L,ja e.2:=λe I=>by
    have:∀(L:List gU) (n:Nat),∀e∈fH a n L,e∈L:=λL=>by
     induction L with
     |nil=>intro n e I;cases n <;> simpa[fH] using I
     |cons z L ih =>
       intro n e I;cases n with
       |zero=>exact I |succ n =>
         rw[fH] at I
         grind
    exact hL e (this _ _ _ I)
   obtain⟨w,i⟩:=HD ts (fH a b.length L) f.2 (λt D=>hg t (ay _ D)) (λt D=>hs t (ay _ D)) d (λc=>by
    by_cases e:c=a
    ·subst e;rw[CF,Y,List.drop_left]
    ·rw[xF e,U c e])
   obtain⟨l,_⟩:=sN a L b ⟨_,Y⟩;have m:=CG a (aQ b) (aN b) V L b 0 ⟨_,Y⟩ (λe I=>by have:=hL e I;unfold ja at this;lia) (λu t e=>by
    have h1:=g.beg u ⟨t,e.symm⟩;have y:aQ b=aQ u+aQ t:=by rw[e,t3]
    have A:aN b=aN u+aN t:=by rw[e,se]
    generalize aQ b=lb at *;generalize aN b=hb at *;rw[show aQ t=lb-aQ u by lia,show aN t=hb-aN u by lia,Int.mul_sub,Int.mul_sub,Int.mul_comm hb lb,Int.mul_comm hb]
    lia) (λq t e=>by
    rw[j2];refine HA a _ _ q.length q (b9 _) λc Z=>?_;have o:col c q <+: lD ts c:=by rw[<-U c Z,e,Hy];exact List.prefix_append _ _
    have:=HB V _ (col c q) (λu p=>by
     obtain⟨t,D,r⟩:=fb.mp p;have D:=(jc.mp D).1;subst r;refine⟨hg t (ay _ D),hs t (ay _ D),?_⟩;have s:=f.1 t D;rcases s with z |z
     ·exact Int.le_of_lt z
     ·exact zp.mp z.1) o
    rw[Int.mul_comm (aN b)]
    lia)
   rw[Int.mul_zero,uo] at m;have j:ji 0 (b++(fH a b.length L).map (·.2))<=ji 0 (L.map (·.2)):=by
    by_cases z:ji 0 (b++(fH a b.length L).map (·.2))<=ji 0 (L.map (·.2))
    ·exact z
    ·have:=Int.mul_neg_of_pos_of_neg V (show ji 0 (L.map (·.2))-ji 0 (b++(fH a b.length L).map (·.2))<0 by lia)
     lia
   have v:flat ((a,b)::ts)=b++flat ts:=rfl;rw[v];refine⟨?_,by rw[t3,l,i]⟩;rw[sM,nB (0+aN b)];rw[sM,nB (0+aN b)] at j;rw[<-i] at j
   lia
def P0(U:aX ss os){s:lu}(V:ss[j]?=↑s):∀p q:ic,os=p++q->col (j+1) (p.zip (tk ss p))=s.take (p.count (j+1)):=by
 apply vV
 ·intro q _
  rfl
 ·intro p a Y q D
  rw[cx,gm] at D;have h1:=Y (a::q) D;rw[oP,List.zip_append (by rw[yy]),Hy,h1,ul,show List.zip [a] [uu ss a (p.count a)]=[(a,uu ss a (p.count a))] from rfl];by_cases e:a=j+1
  ·subst e
   obtain⟨s',I,b,Z,_⟩:=aX.at (p:=p) (q:=q) (a:=j+1) (Eq.subst (motive:=λo=>aX ss o) D U);rw[Nat.add_sub_cancel,V] at I;cases I;rw[zg,show List.count (j+1) [j+1]=1 by simp,List.take_add_one,Z];rfl
  ·rw[ym e,show List.count (j+1) [a]=0 by simp[List.count_singleton,e],Nat.add_zero]
   exact du _
theorem P1(ok:aM ss ts)(V:∀x∈ss.flatten,ja x)(D:aX ss os):ji 0 (flat ts)<=ji 0 (tk ss os):=by
 have Y:(os.zip (tk ss os)).map (·.2)=tk ss os:=by rw[nt];rw[yy];exact b9 _
 have:=(HD ts (os.zip (tk ss os)) ok.srt ok.good (ok.sk V) (λe I=>V _ (D.sk _ (by rw[<-Y];exact List.mem_map_of_mem I))) (λc=>by
  by_cases h:∃j s,c=j+1/\ss[j]?=↑s
  ·obtain⟨j,s,e,U⟩:=h
   subst e;rw[P0 D U os [] (du _).symm,D.cnt j s U,List.take_length];exact(ok.part j s U).symm
  ·have d:c=0\/ss.length<c:=by
    cases c with
    |zero=>exact .inl rfl |succ j =>
      by_cases f:j<ss.length
      ·simp_all
      ·exact .inr ∅
   have Z:col c (os.zip (tk ss os))=[]:=by
    unfold col;rw[qy,i7];intro e I;have:=D.lo e.1 (kt I).1;simp
    lia
   have a:lD ts c=[]:=by
    unfold lD;rw[i7.mpr λt b=>by have:=ok.lo t b;simp;lia];rfl
   rw[Z,a])).1
 rwa [Y] at this
def stk(ss:lx)(c:Nat):lu:=if c=0 then[] else ss.getD (c-1) []
def chg(a:Nat)(l:Int):Nat->List gU->List gU
 |_,[]=>[] |n,e::L=>if e.1=a then(match n with |0=>(e.1,(e.2.1,e.2.2.1,l))::L |n+1=>e::chg a l n L) else e::chg a l n L
def chgN{a d:Nat}(h:d≠a)(l:Int)(x:Sk)(L:List gU)(n:Nat):chg a l n ((d,x)::L)=(d,x)::chg a l n L:=by cases n <;> simp[chg,h]
def kM(P:Int->Int)(x:Sk)(r:lu):Int:=gH (λy=>if P y.1<P x.1 then x.2.1*y.2.1 else 0) r
def hY(P:Int->Int)(a b:lu):Int:=gH (λx=>kM P x b) a
theorem P2(nd:(S.map (·.1)).Nodup)(Z:x∈S)(a:∀y∈b,y∈S)(c:ja x)(t:Int)(I:la) :
  ∃D,dE 5 sf (b.map sD) [A,B,!bN S,!↥t,!sD x,I]=↑(.nx,[A,B,!bN S,!↥(t+kM (aS S) x b),!sD x,D]):=by
 obtain⟨e',h1,D,rfl⟩:=uc (i:=5) (g:=sf) sD (λp e=>∃D,e=[A,B,!bN S,!↥(t+kM (aS S) x p),!sD x,D]) b [A,B,!bN S,!↥t,!sD x,I] ⟨I,by simp[kM,gH]⟩ (by
  rintro p y q e d ⟨D,rfl⟩;have f:y∈S:=a y (by rw[d];simp);have py:=vZ nd f;have px:=vZ nd Z;have V:=xi y;have nx:=xi x;have j:ue [sD x]=↑↥x.2.1:=rfl;have U:ue [sD y]=↑↥y.2.1:=rfl;have mm:cN ↥x.2.1 ↥y.2.1=↑↥(x.2.1*y.2.1):=vy (qo (by unfold ja at c;lia));have k:t+kM (aS S) x (p++[y])=t+kM (aS S) x p+(if aS S y.1<aS S x.1 then x.2.1*y.2.1 else 0):=by unfold kM;rw[G6,G5,G4];lia
  refine⟨[A,B,!bN S,!↥(t+kM (aS S) x (p++[y])),!sD x,!sD y],?_,_,rfl⟩;rw[k];generalize t+kM (aS S) x p=u at *;generalize bN S=PL at *;generalize sD x=X at *;generalize sD y=Y at *;by_cases h:aS S y.1<aS S x.1
  ·rw[aq h]
   simp only[sf,aZ,aH,aD,aB,e7,az,aC,V,nx,py,px,fZ,ke h,dh,aI,j,U,mm,jw,ae,af,aw,av,ac,ai]
  ·rw[b7 h,uo]
   simp only[sf,aZ,aH,aD,aB,e7,az,aC,V,nx,py,px,fZ,em h,cj,f8,aO,ae,af,aw,av,ac,ai])
 exact⟨D,h1⟩
def P3{a:lu}(nd:(S.map (·.1)).Nodup)(Y:∀y∈a,y∈S)(Z:∀y∈b,y∈S)(c:∀y∈S,ja y):Cg [bK a,bK b,bN S]=↑↥(hY (aS S) a b):=by
 obtain⟨e',h1,I,D,rfl⟩:=uc (i:=4) (g:=Ce) sD (λp e=>∃I D,e=[!bK a,!bK b,!bN S,!↥(hY (aS S) p b),I,D]) a [!bK a,!bK b,!bN S,!↥0,none,none] ⟨none,none,rfl⟩ (by
  rintro p x q e d ⟨I,D,rfl⟩;have V:=Y x (by rw[d];simp);obtain⟨f,h2⟩:=P2 (A:=⇑(bK a)) (B:=⇑(bK b)) nd V Z (c x V) (hY (aS S) p b) D;have h:hY (aS S) (p++[x]) b=hY (aS S) p b+kM (aS S) x b:=by unfold hY;rw[G6,G5,G4,uo]
  refine⟨[!bK a,!bK b,!bN S,!↥(hY (aS S) (p++[x]) b),!sD x,f],?_,_,_,rfl⟩;rw[h];exact h2)
 refine lm (e':=[!bK a,!bK b,!bN S,!↥(hY (aS S) a b),I,D]) rfl ?_;show Cf [!bK a,!bK b,!bN S,none,none,none]=_;have U:dE 4 Ce (a.map sD) [!.lst (a.map sD),!bK b,!bN S,!↥0,none,none]=_:=h1;rw[show bK a=.lst (a.map sD) from rfl] at *;generalize a.map sD=AL at *;simp only[Cf,aE,aI,fC,cP,cV,aB,U,aJ,ae,af,aw,av,ac,ai]
def hd(t:Tn):Int:=(t.2.headD (0,0,0)).1
def fY(t u:Tn):Int:=aQ t.2*aN u.2-aQ u.2*aN t.2
def iV(P:Int->Int)(t u:Tn):k7:=if 0<fY t u*hY P t.2 u.2 then[.tup [.str "turned",↥(hd t),↥(hd u),↥(fY t u*hY P t.2 u.2),↥(aN t.2*aN u.2)]] else[]
def fP(P:Int->Int)(t:Tn)(us:l0):k7:=(us.map (iV P t)).flatten
def P4(P:Int->Int)(t u:Tn):(iV P t u).length<=1:=by unfold iV;split <;> simp
theorem CH(P:Int->Int)(t:Tn):∀us:l0,(fP P t us).length<=us.length
 | []=>b9 _ |u::us=>by
   have:=P4 P t u;have:=CH P t us;rw[show fP P t (u::us)=iV P t u++fP P t us from rfl,ak,ao]
   lia
theorem HE{b:Int}(h1:0<=a/\a<=1400)(h2:0<=b/\b<=1400):0<=a*b/\a*b<=1960000:=by
 have:=zr h1.1 h2.1;have:=Int.mul_le_mul h1.2 h2.2 h2.1 (by decide)
 lia
def cS(t:Tn):D:=.tup [↥(aN t.2),↥(aQ t.2)]
def HF(h:t.2≠[]):bF (t.2.map sD) 0=↑(sD (t.2.headD (0,0,0))):=by
 cases e:t.2 with
 |nil=>exact absurd e h |cons x r=>exact kI
theorem P5(nd:(S.map (·.1)).Nodup)(V:∀t∈ts,∀x∈t.2,x∈S)(A:∀y∈S,ja y)(j:∀t∈ts,t.2≠[])(m:∀t∈ts,t.2.length<=14)(hl:ts.length<=14)(hi:i<ts.length)(I:k7)(ha:I.length<=300)(n o p q:la) :
  ∃c f h Z,dE 6 si (cG ((i:Int)+1) (ts.length-(i+1))) [!.lst (ts.map cS),!(.lst (ts.map λt=>bK t.2)),!bN S,↑(.ow I),!↥(i:Int),!bK ts[i].2,n,o,p,q] =
   ↑(.nx,[!.lst (ts.map cS),!(.lst (ts.map λt=>bK t.2)),!bN S,↑(.ow (I++fP (aS S) ts[i] (ts.drop (i+1)))),!↥(i:Int),!bK ts[i].2,c,f,h,Z]):=by
 have B:∀t∈ts,0<=aN t.2/\aN t.2<=840/\0<=aQ t.2/\aQ t.2<=1400:=λt C=>by
  have:=yz t.2 λx K=>A x (V t C x K);have:=m t C
  lia
 obtain⟨e',h1,c,f,h,Z,rfl⟩:=zf (i:=6) (g:=si) (λk e=>∃c f h Z,e=[!.lst (ts.map cS),!(.lst (ts.map λt=>bK t.2)),!bN S,↑(.ow (I++fP (aS S) ts[i] ((ts.drop (i+1)).take k))),!↥(i:Int),!bK ts[i].2,c,f,h,Z])
  (cG ((i:Int)+1) (ts.length-(i+1))) [!.lst (ts.map cS),!(.lst (ts.map λt=>bK t.2)),!bN S,↑(.ow I),!↥(i:Int),!bK ts[i].2,n,o,p,q] ⟨n,o,p,q,by rw[List.take_zero];simp[fP]⟩ (by
    rintro k d e r ⟨c,f,h,Z,rfl⟩;obtain⟨rfl,L⟩:=mL r;have s:i+1+k<ts.length:=by lia
    have v:k<(ts.drop (i+1)).length:=by rw[fm];exact L
    have N:(ts.drop (i+1))[k]=ts[i+1+k]:=List.getElem_drop ..;have w:(ts.drop (i+1)).take (k+1)=(ts.drop (i+1)).take k++[ts[i+1+k]]:=by rw[lj v,N]
    have P:(i:Int)+1+(k:Int)=((i+1+k:Nat):Int):=by lia
    rw[P,w];have mt:ts[i]∈ts:=jt hi;have z:ts[i+1+k]∈ts:=jt s;have E:bF (ts.map cS) (i:Int)=↑(cS ts[i]):=m9 cS (am hi);have F:bF (ts.map cS) ((i+1+k:Nat):Int)=↑(cS ts[i+1+k]):=m9 cS (am s);have G:bF (ts.map λt=>bK t.2) ((i+1+k:Nat):Int)=↑(bK ts[i+1+k].2):=m9 (λt:Tn=>bK t.2) (am s);have Q:(fP (aS S) ts[i] ((ts.drop (i+1)).take k)).length<=14:=by
     have:=CH (aS S) ts[i] ((ts.drop (i+1)).take k);rw[fj,fm] at this
     lia
    have R:fP (aS S) ts[i] ((ts.drop (i+1)).take k++[ts[i+1+k]])=fP (aS S) ts[i] ((ts.drop (i+1)).take k)++iV (aS S) ts[i] ts[i+1+k]:=by simp[fP]
    rw[R,<-cx];generalize fP (aS S) ts[i] ((ts.drop (i+1)).take k)=acc2 at *;have T:bS ((I++acc2).length+1):=few (by rw[ak];lia);generalize I++acc2=M at *;have W:=HF (j _ mt);have h1:=HF (j _ z);have th:=P3 nd (V _ mt) (V _ z) A;have bt:=B _ mt;have bu:=B _ z;generalize ((i+1+k:Nat):Int)=J at *;generalize ts[i+1+k]=u at *;generalize ts[i]=t at *;have Y:zh [cS t,cS u]=↑↥(fY t u):=vL _ _ _ _ (qo ∅) (qo ∅);have p1:=HE (a:=aQ t.2) (b:=aN u.2) ∅ ∅;have p2:=HE (a:=aQ u.2) (b:=aN t.2) ∅ ∅;have H:cN ↥(fY t u) ↥(hY (aS S) t.2 u.2)=↑↥(fY t u*hY (aS S) t.2 u.2):=vy (qo (by unfold fY;lia));have X:cN ↥(aN t.2) ↥(aN u.2)=↑↥(aN t.2*aN u.2):=vy (qo ∅);have n1:qv [sD (t.2.headD (0,0,0))]=↑↥(hd t):=xi _;have n2:qv [sD (u.2.headD (0,0,0))]=↑↥(hd u):=xi _;have i1:cO (cS t) ↥0=↑↥(aN t.2):=rfl;have i2:cO (cS u) ↥0=↑↥(aN u.2):=rfl;by_cases l:0<fY t u*hY (aS S) t.2 u.2
    ·refine⟨[!.lst (ts.map cS),!(.lst (ts.map λt=>bK t.2)),!bN S,↑(.ow (M++[.tup [.str "turned",↥(hd t),↥(hd u),↥(fY t u*hY (aS S) t.2 u.2),↥(aN t.2*aN u.2)]])),!↥(i:Int),!bK t.2,!↥J,!bK u.2,!↥(fY t u*hY (aS S) t.2 u.2),!↥(aN t.2*aN u.2)],?_,_,_,_,_,by unfold iV;rw[aq l]⟩
     rw[show bK t.2=.lst (t.2.map sD) from rfl,show bK u.2=.lst (u.2.map sD) from rfl] at *;generalize fY t u*hY (aS S) t.2 u.2=O at *;generalize aN t.2*aN u.2=U at *;generalize bN S=PL at *;generalize t.2.map sD=TL at *;generalize u.2.map sD=UL at *;generalize ts.map cS=SHL at *;generalize (ts.map λt=>bK t.2)=BL at *;generalize cS t=st at *;generalize cS u=su at *;generalize sD (t.2.headD (0,0,0))=x at *;generalize sD (u.2.headD (0,0,0))=y at *;simp[si,-cO,E,F,G,Y,th,H,X,l,i1,i2,W,h1,n1,n2,T]
    ·refine⟨[!.lst (ts.map cS),!(.lst (ts.map λt=>bK t.2)),!bN S,↑(.ow M),!↥(i:Int),!bK t.2,!↥J,!bK u.2,!↥(fY t u*hY (aS S) t.2 u.2),Z],?_,_,_,_,_,by unfold iV;rw[b7 l,du]⟩
     rw[show bK u.2=.lst (u.2.map sD) from rfl] at *;generalize fY t u*hY (aS S) t.2 u.2=O at *;generalize bN S=PL at *;generalize bK t.2=TL at *;generalize u.2.map sD=UL at *;generalize ts.map cS=SHL at *;generalize (ts.map λt=>bK t.2)=BL at *;generalize cS t=st at *;generalize cS u=su at *;simp[si,-cO,E,F,G,Y,th,H,l])
 rw[yg,i6 (by rw[fm];exact b9 _)] at h1;exact⟨c,f,h,Z,h1⟩
def dZ(P:Int->Int)(ts:l0)(n:Nat):k7:=((List.range n).map λi=>fP P (ts.getD i (0,[])) (ts.drop (i+1))).flatten
def HG(P:Int->Int)(ts:l0)(n:Nat):dZ P ts (n+1)=dZ P ts n++fP P (ts.getD n (0,[])) (ts.drop (n+1)):=by
 unfold dZ;rw[jb,bw,fu];simp
theorem CI(P:Int->Int){ts:l0}(D:ts.length<=14):∀n,(dZ P ts n).length<=14*n
 |0=>b9 _ |n+1=>by
   have h1:=CI P D n;have h2:=CH P (ts.getD n (0,[])) (ts.drop (n+1));rw[fm] at h2;rw[HG,ak]
   lia
theorem HH{ts:List α}{p q:List (α×Nat)}{x:α×Nat}(h:ts.zipIdx 0=p++x::q):∃hi:p.length<ts.length,x=(ts[p.length],p.length):=by
 have e:(ts.zipIdx 0)[p.length]?=↑x:=by rw[h];simp
 rw[kh] at e;have hi:p.length<ts.length:=by
  by_cases z:p.length<ts.length
  ·exact z
  ·rw[de ∅] at e;cases e
 rw[am hi] at e;refine⟨hi,?_⟩;simpa using(cg e).symm
theorem P6(nd:(S.map (·.1)).Nodup)(I:∀t∈ts,∀x∈t.2,x∈S)(h:∀y∈S,ja y)(c:∀t∈ts,t.2≠[])(d:∀t∈ts,t.2.length<=14)(f:ts.length<=14) :
  Ci [.lst (ts.map cS),.lst (ts.map λt=>bK t.2),bN S]=↑(.lst (dZ (aS S) ts ts.length)):=by
 obtain⟨e',h1,a,b,U,V,Y,Z,rfl⟩:=xg (ix:=[4,5]) (g:=Ch) (λx:Tn×Nat=>[D.int (x.2:Nat),bK x.1.2]) (λp e=>∃a b U V Y Z,e=[!.lst (ts.map cS),!(.lst (ts.map λt=>bK t.2)),!bN S,↑(.ow (dZ (aS S) ts p.length)),a,b,U,V,Y,Z]) (ts.zipIdx 0)
  [!.lst (ts.map cS),!(.lst (ts.map λt=>bK t.2)),!bN S,↑(.ow []),none,none,none,none,none,none] ⟨none,none,none,none,none,none,rfl⟩ (λ_ _=>rfl) (by
   rintro p x q e i ⟨a,b,U,V,Y,Z,rfl⟩;obtain⟨hi,ex⟩:=HH i;subst ex;have j:=CI (aS S) f p.length;obtain⟨k,l,m,n,h2⟩:=P5 nd I h c d f hi (dZ (aS S) ts p.length) ∅ U V Y Z;have o:ts.getD p.length (0,[])=ts[p.length]:=by rw[bn,am hi];rfl
   have r:dZ (aS S) ts (p++[(ts[p.length],p.length)]).length=dZ (aS S) ts p.length++fP (aS S) ts[p.length] (ts.drop (p.length+1)):=by rw[ak,ft,HG,o]
   refine⟨[!.lst (ts.map cS),!(.lst (ts.map λt=>bK t.2)),!bN S,↑(.ow (dZ (aS S) ts (p++[(ts[p.length],p.length)]).length)),!↥(p.length:Nat),!bK ts[p.length].2,k,l,m,n],?_,_,_,_,_,_,_,rfl⟩;rw[r];have s:nO [↥((p.length:Int)+1),↥((ts.map λt=>bK t.2).length:Int)]=↑(cG ((p.length:Int)+1) (ts.length-(p.length+1))):=by
    rw[ah];unfold nO;dsimp only;rw[aq ⟨⟨by lia,by lia⟩,⟨by lia,by lia⟩⟩];congr 2
    lia
   generalize ts[p.length]=t at *;generalize (ts.map λt=>bK t.2)=BL at *;generalize ts.map cS=SHL at *;generalize bN S=PL at *;generalize bK t.2=TL at *;generalize dZ (aS S) ts p.length=acc at *;simp only[ql,Ch,cP,jv,az,aC,aD,aB,j6,fC,jw,s,h2,ae,af,aw,av,ac,ai])
 have u:(ts.zipIdx 0).length=ts.length:=by simp
 rw[u] at h1;have v:iQ 0 [.lst (ts.map λt=>bK t.2)]=↑((ts.zipIdx 0).map λx:Tn×Nat=>D.tup [D.int (x.2:Nat),bK x.1.2]):=by
  show ↑(rn 0 (ts.map λt=>bK t.2))=_;rw[oN]
 refine lm (e':=[!.lst (ts.map cS),!(.lst (ts.map λt=>bK t.2)),!bN S,!.lst (dZ (aS S) ts ts.length),a,b,U,V,Y,Z]) rfl ?_;rw[show lf 10 [.lst (ts.map cS),.lst (ts.map λt=>bK t.2),bN S]=[!.lst (ts.map cS),!(.lst (ts.map λt=>bK t.2)),!bN S,none,none,none,none,none,none,none] from rfl];generalize (ts.map λt=>bK t.2)=BL at *;generalize ts.map cS=SHL at *;generalize bN S=PL at *;generalize ((ts.zipIdx 0).map λx:Tn×Nat=>D.tup [D.int (x.2:Nat),bK x.1.2])=EN at *;simp only[GG,aE,bW,iy,az,aC,ce,ib,dh,qi,jv,aB,v,h1,aJ,ae,af,aw,av,ac,ai]
def beg(T:lu)(n:Int):Int:=aN (T.takeWhile λx=>not (x.1==n))
def dS(T:lu):D:=.dct (T.map (·.1)) (T.map λx=>D.tup [↥(beg T x.1),↥(beg T x.1+x.2.1)])
def P7{p:lu}(nd:((p++x::q).map (·.1)).Nodup):beg (p++x::q) x.1=aN p:=by
 unfold beg;rw[bw,m7] at nd;rw[List.takeWhile_append_of_pos (λy D=>by
  have:y.1≠x.1:=nd.2.2 y.1 (List.mem_map_of_mem D) x.1 ⋯;simp[this])]
 simp
def HJ:∀(os:ic) (p q:lu),((p++q).map (·.1)).Nodup->os.length=q.length->q9 (aN p) (os.zip q)=(os.zip q).map λz=>[z.2.1,(z.1:Int),beg (p++q) z.2.1,beg (p++q) z.2.1+z.2.2.1]
 | [],p,q,_,h=>by cases q with |nil=>rfl |cons x q=>cases h
 |a::os,p,[],_,h=>by cases h
 |a::os,p,x::q,nd,h=>by
   have D:=HJ os (p++[x]) q (by rw[cx];exact nd) (oh h);rw[cx,se,show aN [x]=x.2.1 by simp[aN]] at D;rw[jy,q9,bq,D,P7 nd];rfl
theorem P8(nd:(T.map (·.1)).Nodup)(e:T.length<=100)(I:os.length=T.length):Ck [.lst ((q9 0 (os.zip T)).map iT)]=↑(dS T):=by
 have U:=HJ os [] T nd I;rw[l9,show aN []=0 from rfl] at U;rw[U,gh];have c:=BO (te:=bE (az (aB 0) (az (bE (az (aB 2) (az (aB 3) (aC)))) (aC)))) (n:=4) (base:=[]) (λz:Nat×Sk=>[D.int z.2.1,↥(z.1:Int),↥(beg T z.2.1),↥(beg T z.2.1+z.2.2.1)]) (λz:Nat×Sk=>D.tup [↥z.2.1,.tup [↥(beg T z.2.1),↥(beg T z.2.1+z.2.2.1)]]) (os.zip T) (λ_ _=>rfl) (λz _=>⟨[!↥z.2.1,!↥(z.1:Int),!↥(beg T z.2.1),!↥(beg T z.2.1+z.2.2.1)],by
  simp[List.range,List.range.loop,ql]⟩)
 have V:(os.zip T).map (·.2)=T:=by rw[nt];rw[I];exact b9 _
 have Y:(os.zip T).map (λz:Nat×Sk=>z.2.1)=T.map (·.1):=by
  rw[<-congrArg (List.map λx:Sk=>x.1) V,gh];rfl
 have a:(os.zip T).map (λz:Nat×Sk=>D.tup [↥(beg T z.2.1),↥(beg T z.2.1+z.2.2.1)])=T.map λx=>D.tup [↥(beg T x.1),↥(beg T x.1+x.2.1)]:=by
  rw[<-congrArg (List.map λx:Sk=>D.tup [↥(beg T x.1),↥(beg T x.1+x.2.1)]) V,gh];rfl
 have Z:=Gx (λz:Nat×Sk=>z.2.1) (λz:Nat×Sk=>D.tup [↥(beg T z.2.1),↥(beg T z.2.1+z.2.2.1)]) (os.zip T) (by rw[Y];exact nd);rw[Y,a] at Z;have b:bS ((os.zip T).map (iT ∘ λz=>[z.2.1,(z.1:Int),beg T z.2.1,beg T z.2.1+z.2.2.1])).length:=few (by rw[ah,xp];lia);refine lm (e':=[!(.lst ((os.zip T).map (iT ∘ λz=>[z.2.1,(z.1:Int),beg T z.2.1,beg T z.2.1+z.2.2.1])))]) rfl ?_;show Cj [!(.lst ((os.zip T).map (iT ∘ λz=>[z.2.1,(z.1:Int),beg T z.2.1,beg T z.2.1+z.2.2.1])))]=_;have d:mJ cA (bE (az (aB 0) (az (bE (az (aB 2) (az (aB 3) (aC)))) (aC)))) 4 [] ((os.zip T).map (iT ∘ λz=>[z.2.1,(z.1:Int),beg T z.2.1,beg T z.2.1+z.2.2.1]))=_:=c;generalize ((os.zip T).map (iT ∘ λz=>[z.2.1,(z.1:Int),beg T z.2.1,beg T z.2.1+z.2.2.1]))=L at *;simp only[Cj,aJ,e7,az,aC,aL,nU,cV,aB,ae,ac,ai,b,dh,dm,d,Z,dS]
def HK(nd:(T.map (·.1)).Nodup)(I:x∈T):vt (dS T) ↥x.1=↑(.tup [↥(beg T x.1),↥(beg T x.1+x.2.1)]) :=
 BP (λy:Sk=>y.1) (λy:Sk=>D.tup [↥(beg T y.1),↥(beg T y.1+y.2.1)]) T nd x I
def lE(T:lu)(x y:Sk)(d:Int):Int:=d*(beg T y.1-(beg T x.1+x.2.1))
def pF(T:lu)(r:lu)(k:Nat)(d:Int):k7:=if 0<lE T (r.getD k (0,0,0)) (r.getD (k+1) (0,0,0)) d then[.tup [.str "parted",↥(r.getD k (0,0,0)).1,↥(r.getD (k+1) (0,0,0)).1,↥(lE T (r.getD k (0,0,0)) (r.getD (k+1) (0,0,0)) d),↥(aN r)]] else[]
def iZ(T:lu)(r:lu)(I:List (Int×Nat)):k7:=(I.map λz=>pF T r z.2 z.1).flatten
def qh(T:lu)(ts:l0):k7:=(ts.map λt=>iZ T t.2 ((cU t.2).zipIdx 0)).flatten
def P9(T r:lu)(k:Nat)(d:Int):(pF T r k d).length<=1:=by unfold pF;split <;> simp
theorem CJ(T r:lu):∀D:List (Int×Nat),(iZ T r D).length<=D.length
 | []=>b9 _ |z::D=>by
   have:=P9 T r z.2 z.1;have:=CJ T r D;rw[show iZ T r (z::D)=pF T r z.2 z.1++iZ T r D from rfl,ak,ao]
   lia
theorem HM(D:∀y∈T,ja y)(U:T.length<=14)(n:Int):0<=beg T n/\beg T n<=840:=by
 have h1:=yz (T.takeWhile λx=>not (x.1==n)) λx I=>D x ((oj _).subset I);have h2:=(oj (p:=λx:Sk=>not (x.1==n)) (l:=T)).length_le;unfold beg
 lia
theorem PB(nd:(T.map (·.1)).Nodup)(h:∀y∈T,ja y)(hT:T.length<=14)(U:∀x∈t.2,x∈T)(K:t.2≠[])(L:t.2.length<=14)(I:k7)(ha:I.length<=300)(j l m n Z:la) :
  ∃b c d f V,wM [A,B,!dS T,↑(.ow I),!cS t,!bK t.2,j,l,m,n,Z]=↑(.nx,[A,B,!dS T,↑(.ow (I++iZ T t.2 ((cU t.2).zipIdx 0))),!cS t,!bK t.2,b,c,d,f,V]):=by
 have N:(cU t.2).length=t.2.length-1:=by unfold cU;rw[BN,qf]
 have a:=NT t.2 (λx P=>h x (U x P)) L;obtain⟨e',h1,b,c,d,f,V,rfl⟩:=xg (ix:=[6,7]) (g:=wL) (λz:Int×Nat=>[D.int (z.2:Nat),D.int z.1]) (λp e=>∃b c d f V,e=[A,B,!dS T,↑(.ow (I++iZ T t.2 p)),!cS t,!bK t.2,b,c,d,f,V]) ((cU t.2).zipIdx 0)
  [A,B,!dS T,↑(.ow I),!cS t,!bK t.2,j,l,m,n,Z] ⟨j,l,m,n,Z,by simp[iZ]⟩ (λ_ _=>rfl) (by
   rintro p z q e Q ⟨b,c,d,f,V,rfl⟩;obtain⟨hi,R⟩:=HH Q;have S:p.length+1<t.2.length:=by lia
   have o:z.2=p.length:=by rw[R]
   have W:=CJ T t.2 p;have f1:bS ((I++iZ T t.2 p).length+1):=few (by rw[ak];lia);have ep:iZ T t.2 (p++[z])=iZ T t.2 p++pF T t.2 z.2 z.1:=by simp[iZ]
   rw[ep,<-cx];rw[o];generalize iZ T t.2 p=acc2 at *;generalize I++acc2=M at *;obtain⟨x,ex⟩:∃x,x=t.2.getD p.length (0,0,0):=⟨_,rfl⟩;obtain⟨y,ey⟩:∃y,y=t.2.getD (p.length+1) (0,0,0):=⟨_,rfl⟩;have r:t.2[p.length]?=↑x:=by rw[ex,bn,am ∅];rfl
   have u:t.2[p.length+1]?=↑y:=by rw[ey,bn,am S];rfl
   have v:bF (t.2.map sD) (p.length:Int)=↑(sD x):=m9 sD r;have w:bF (t.2.map sD) ((p.length:Int)+1)=↑(sD y):=m9 (k:=p.length+1) sD u;have C:=HK nd (U x (bc r));have E:=HK nd (U y (bc u));have bx:=HM h hT x.1;have bY:=HM h hT y.1;have s:=h x (U x (bc r));unfold ja at s;have F:=xi x;have G:=xi y;have mm:cN ↥z.1 ↥(beg T y.1-(beg T x.1+x.2.1))=↑↥(lE T x y z.1):=u9 (qo ∅);have H:cO (.tup [↥(beg T y.1),↥(beg T y.1+y.2.1)]) ↥0=↑↥(beg T y.1):=rfl;have J:cO (.tup [↥(beg T x.1),↥(beg T x.1+x.2.1)]) ↥1=↑↥(beg T x.1+x.2.1):=rfl;have i2:cO (cS t) ↥0=↑↥(aN t.2):=rfl;unfold pF;rw[<-ex,<-ey];by_cases i:0<lE T x y z.1
   ·rw[aq i]
    refine⟨[A,B,!dS T,↑(.ow (M++[.tup [.str "parted",↥x.1,↥y.1,↥(lE T x y z.1),↥(aN t.2)]])),!cS t,!bK t.2,!↥(p.length:Nat),!↥z.1,!↥x.1,!↥y.1,!↥(lE T x y z.1)],?_,_,_,_,_,_,rfl⟩;rw[show bK t.2=.lst (t.2.map sD) from rfl] at *;obtain⟨ST,eST,i3⟩:∃ST,cS t=.tup ST/\bF ST 0=↑↥(aN t.2):=⟨_,rfl,rfl⟩;rw[eST] at *;generalize lE T x y z.1=O at *;generalize dS T=SP at *;generalize t.2.map sD=TL at *;generalize sD x=X at *;generalize sD y=Y at *;simp[wL,ql,o,-cO,v,w,F,G,C,E,H,J,i2,i3,mm,i,f1]
   ·rw[b7 i,du]
    refine⟨[A,B,!dS T,↑(.ow M),!cS t,!bK t.2,!↥(p.length:Nat),!↥z.1,!↥x.1,!↥y.1,!↥(lE T x y z.1)],?_,_,_,_,_,_,rfl⟩;rw[show bK t.2=.lst (t.2.map sD) from rfl] at *;generalize lE T x y z.1=O at *;generalize dS T=SP at *;generalize cS t=ST at *;generalize t.2.map sD=TL at *;generalize sD x=X at *;generalize sD y=Y at *;simp[wL,ql,o,-cO,v,w,F,G,C,E,H,J,mm,i])
 refine⟨b,c,d,f,V,?_⟩;have he:iQ 0 [.lst ((cU t.2).map D.int)]=↑(((cU t.2).zipIdx 0).map λz:Int×Nat=>D.tup [D.int (z.2:Nat),D.int z.1]):=by
  show ↑(rn 0 ((cU t.2).map D.int))=_;rw[oN]
 generalize (cU t.2).map D.int=DB at *;generalize (((cU t.2).zipIdx 0).map λz:Int×Nat=>D.tup [D.int (z.2:Nat),D.int z.1])=EN at *;have a:vD [cS t,bK t.2]=↑(.lst DB):=a;simp only[wM,qi,jv,az,aC,e7,aB,a,he,h1,ae,af,ac,ai]
theorem CK(T:lu):∀ts:l0,(qh T ts).length<=(flat ts).length
 | []=>b9 _ |t::ts=>by
   have h1:=CK T ts;have h2:=CJ T t.2 ((cU t.2).zipIdx 0);have D:(cU t.2).length=t.2.length-1:=by unfold cU;rw[BN,qf]
   rw[List.length_zipIdx] at h2;rw[show qh T (t::ts)=iZ T t.2 ((cU t.2).zipIdx 0)++qh T ts from rfl,show flat (t::ts)=t.2++flat ts from rfl,ak,ak]
   lia
theorem PD(nd:(T.map (·.1)).Nodup)(n:∀y∈T,ja y)(hT:T.length<=14)(U:∀t∈ts,∀x∈t.2,x∈T)(V:∀t∈ts,t.2≠[])(Y:∀t∈ts,t.2.length<=14)(l:(flat ts).length<=14) :
  Co [.lst (ts.map cS),.lst (ts.map λt=>bK t.2),dS T]=↑(.lst (qh T ts)):=by
 obtain⟨e',h1,f,h,a,b,c,d,I,rfl⟩:=xg (ix:=[4,5]) (g:=wM) (λt:Tn=>[cS t,bK t.2]) (λp e=>∃f h a b c d I,e=[!.lst (ts.map cS),!(.lst (ts.map λt=>bK t.2)),!dS T,↑(.ow (qh T p)),f,h,a,b,c,d,I]) ts
  [!.lst (ts.map cS),!(.lst (ts.map λt=>bK t.2)),!dS T,↑(.ow []),none,none,none,none,none,none,none] ⟨none,none,none,none,none,none,none,rfl⟩ (λ_ _=>rfl) (by
   rintro p t q e m ⟨f,h,a,b,c,d,I,rfl⟩;have i:t∈ts:=by rw[m];simp
   have z:(qh T p).length<=14:=by
    have:=CK T p;have j:flat ts=flat p++flat (t::q):=by rw[m];simp[flat]
    rw[j,ak] at l
    lia
   obtain⟨o,r,s,u,k,h2⟩:=PB (A:=⇑(.lst (ts.map cS))) (B:=⇑(.lst (ts.map λt=>bK t.2))) nd n hT (U t i) (V t i) (Y t i) (qh T p) ∅ a b c d I;have j:qh T (p++[t])=qh T p++iZ T t.2 ((cU t.2).zipIdx 0):=by simp[qh]
   refine⟨[!.lst (ts.map cS),!(.lst (ts.map λt=>bK t.2)),!dS T,↑(.ow (qh T (p++[t]))),!cS t,!bK t.2,o,r,s,u,k],?_,_,_,_,_,_,_,_,rfl⟩;rw[j];exact h2)
 have v:ts.zip ts=ts.map λt=>(t,t):=by
  clear h1 U V Y l;induction ts with
  |nil=>rfl |cons t ts ih=>rw[jy,ih];rfl
 have w:mG [.lst (ts.map cS),.lst (ts.map λt=>bK t.2)]=↑(ts.map λt=>D.tup [cS t,bK t.2]):=by
  show ↑(fB (ts.map cS) (ts.map λt=>bK t.2))=_;rw[B8,v,gh];rfl
 refine lm (e':=[!.lst (ts.map cS),!(.lst (ts.map λt=>bK t.2)),!dS T,!.lst (qh T ts),f,h,a,b,c,d,I]) rfl ?_;rw[show lf 11 [.lst (ts.map cS),.lst (ts.map λt=>bK t.2),dS T]=[!.lst (ts.map cS),!(.lst (ts.map λt=>bK t.2)),!dS T,none,none,none,none,none,none,none,none] from rfl];generalize (ts.map λt=>D.tup [cS t,bK t.2])=Z at *;generalize (ts.map λt=>bK t.2)=BL at *;generalize ts.map cS=SHL at *;generalize dS T=PL at *;simp only[GH,aE,bW,iy,az,aC,ce,ib,dh,qi,jv,aB,w,h1,aJ,ae,af,aw,av,ac,ai]
theorem PF(ok:aM ss ts)(e:yo [aG ss]=↑(.lst (ts.map cE)))(I:aX ss os)(g:∀x∈ss.flatten,ja x)(nd:(ss.flatten.map (·.1)).Nodup)(s:ss.length<=900)(b:ss.flatten.length<=14) :
  Cp [aG ss,.lst (iD os)]=↑(.lst (dZ (aS (tk ss os)) ts ts.length++qh (tk ss os) ts)):=by
 have f:os.length<=14:=by rw[I.len];exact b
 have h:=NL I ∅ ∅;have i:=rO I ∅ ∅;have tl:(tk ss os).length<=14:=by rw[yy];exact f
 have d:=Gv I nd;have j:=Gz (tk ss os) d ∅;have k:=NQ ok ∅ b;have D:∀t∈ts,∀x∈t.2,x∈tk ss os:=λt U x l=>(vY I).mem_iff.mpr (ok.perm.mem_iff.mp (il.mpr ⟨t.2,fb.mpr ⟨t,U,rfl⟩,l⟩));have V:∀y∈tk ss os,ja y:=λy m=>g y (I.sk y m);have Y:∀t∈ts,t.2≠[]:=λt U=>(ok.good t U).ne;have Z:∀t∈ts,t.2.length<=14:=λt U=>d7 (ok.len1 t U) b;have fp:=Py ok;have a:ts.length<=14:=by have:=ok.len;lia
 have n:=P6 d D V Y Z a;have o:=P8 (T:=tk ss os) (os:=os) d ∅ (by rw[yy]);have p:=PD d V tl D Y Z (by rw[fp.1];exact b);have c:=ud (te:=e7 yj (az (aB 0) aC)) (base:=[]) cE cS ts λt _=>⟨_,by simp[FK];exact⟨rfl,rfl⟩⟩;have q:bS (ts.map cE).length:=few (by rw[ah];lia);have u:=CI (aS (tk ss os)) a ts.length;have v:=CK (tk ss os) ts;have r:bS ((dZ (aS (tk ss os)) ts ts.length).length+(qh (tk ss os) ts).length):=few ∅;refine Mg rfl ?_;rw[show lf 7 [aG ss,.lst (iD os)]=[!aG ss,!.lst (iD os),none,none,none,none,none] from rfl];generalize dZ (aS (tk ss os)) ts ts.length=TR at *;generalize qh (tk ss os) ts=PA at *;generalize (q9 0 (os.zip (tk ss os))).map iT=PR at *;generalize bN (tk ss os)=PC at *;generalize dS (tk ss os)=SPN at *;generalize (tk ss os).map sD=TK at *;generalize ts.map cE=TN at *;generalize ts.map cS=SHL at *;generalize (ts.map λt=>bK t.2)=BL at *;generalize iD os=OL at *;generalize aG ss=SS at *;simp only[GI,aE,aI,e7,az,aC,aB,h,i,j,e,k,aL,kj,cV,q,dh,dm,c,aJ,cM,n,o,p,r,ae,af,aw,av,ac,ai];exact⟨_,rfl⟩
theorem PH(V:SI n i s)(o:n<=5)(st:C8 k s d s') :
  (∃(a:Nat) (h l:Int),d.isPut=true/\1<=a/\a<=s.1.length/\s'.1=fO s.1 a (lg k,h,l))\/(d.isPut=false/\∃(b:Nat) (r j:lu),s.1[b-1]?=↑r/\s'.1=s.1.set (b-1) j/\(j.map (·.1)).Sublist (r.map (·.1))):=by
 have l5:s.1.length<=5:=by rw[V.len];exact o
 have r14:∀y∈s.1,y.length<=14:=λy Z=>d7 (f9 Z).length_le V.few;obtain⟨D,ans,st,_⟩:=st;cases d with
 |dry =>
   right;refine⟨rfl,?_⟩;obtain⟨ts,ok,_⟩:=vP s.1 V.good V.few;have z:0<s.1.flatten.length:=by
    replace D:gQ s.1 k.length=none:=D;unfold gQ at D;split at D
    ·assumption
    ·cases D
   have p:=rM ok V.good V.few ∅;cases ts with
   |nil =>
     have:=ok.perm.length_eq;simp only[dm,nv,ce] at this
     lia
   |cons t ts =>
     obtain⟨a,b⟩:=t;have q:=(ok.good (a,b) ⋯).ne;cases b with
     |nil=>exact absurd rfl q |cons x r =>
       obtain⟨tl,u,g,v,A,B,C,E⟩:=GE ok V.good V.few;have e:=r14 _ (bc g);have e:tl.length+1<=14:=by simpa using e
       have sp:=Hm (num:=lg k) p g v l5 ∅;rw[st] at sp;obtain⟨e1,_⟩:aG s'.1=aG (s.1.set (a-1) tl)/\ans=sD x:=by simpa using sp
       exact⟨a,x::tl,tl,g,xD e1,by rw[bq];exact List.sublist_cons_self _ _⟩
 |put a h l =>
   left;replace D:fV s.1 k.length a h l=none:=D;unfold fV at D;split at D
   ·cases D
   ·rename_i c
    obtain⟨I,rfl⟩:∃I:Nat,a=(I:Int):=⟨a.toNat,by lia⟩;have sp:=Hi (num:=lg k) (ss:=s.1) (a:=I) (h:=h) (l:=l) ∅ ∅ l5 (by
     rw[bn,am ∅];have:=r14 _ (jt (show I-1<s.1.length by lia));exact d7 this ∅)
    rw[st] at sp;obtain⟨e1,_⟩:aG s'.1=aG (fO s.1 I (lg k,h,l))/\ans=.int (lg k):=by simpa using sp
    exact⟨I,h,l,rfl,by lia,by lia,xD e1⟩
 |go a =>
   right;refine⟨rfl,?_⟩;replace D:kL s.1 k.length a=none:=D;unfold kL at D;split at D
   ·cases D
   ·rename_i c
    split at D
    ·cases D
    ·rename_i f
     obtain⟨I,rfl⟩:∃I:Nat,a=(I:Int):=⟨a.toNat,by lia⟩;have U:=xb c;rw[gl] at U f;obtain⟨x,tl,et⟩:∃x tl,s.1.getD (I-1) []=x::tl:=by
      cases h:s.1.getD (I-1) [] with
      |nil=>rw[h] at f;exact absurd rfl f |cons x tl=>exact⟨x,tl,rfl⟩
     rw[et] at U;have e:=r14 _ (bc U);have e:tl.length+1<=14:=by simpa using e
     have sp:=Hl (num:=lg k) U ∅ l5 ∅;rw[st] at sp;obtain⟨e1,_⟩:aG s'.1=aG (s.1.set (I-1) tl)/\ans=sD x:=by simpa using sp
     exact⟨I,x::tl,tl,U,xD e1,by rw[bq];exact List.sublist_cons_self _ _⟩
 |tell a m l =>
   right;refine⟨rfl,?_⟩;replace D:wp s.1 k.length a m l=none:=D;unfold wp at D;split at D
   ·cases D
   ·rename_i c
    split at D
    ·cases D
    ·rename_i f
     split at D
     ·cases D
     ·rename_i w
      obtain⟨I,rfl⟩:∃I:Nat,a=(I:Int):=⟨a.toNat,by lia⟩;have U:=xb c;rw[gl] at U f w;obtain⟨Y,rfl⟩:∃Y:Nat,m=(Y:Int):=⟨m.toNat,by lia⟩;generalize s.1.getD (I-1) []=t at *;have Z:t[Y-1]?=↑(t.getD (Y-1) (0,0,0)):=by rw[bn,am ∅];rfl
      generalize t.getD (Y-1) (0,0,0)=y at *;have sp:=Hj (num:=lg k) (l:=l) U Z ∅ ∅ l5;rw[st] at sp;obtain⟨e1,_⟩:aG s'.1=aG (s.1.set (I-1) (t.set (Y-1) (y.1,y.2.1,l)))/\ans=.int y.2.2:=by simpa using sp
      refine⟨I,t,_,U,xD e1,?_⟩;have:(t.set (Y-1) (y.1,y.2.1,l)).map (·.1)=t.map (·.1):=by
       rw[jz,show y.1=(t.map (·.1))[Y-1]'(by rw[ah];exact(aj.mp Z).1) by rw[List.getElem_map,(aj.mp Z).2]];exact List.set_getElem_self _
      rw[this];exact um _
def PJ{r D:lu}(h:ss[i]?=↑r)(I:(D.map (·.1)).Sublist (r.map (·.1))):((ss.set i D).flatten.map (·.1)).Sublist (ss.flatten.map (·.1)):=by
 induction ss generalizing i with
 |nil=>cases h
 |cons a ss ih =>
   cases i with
   |zero =>
     cases h;rw[av,df,df,bw,bw];exact I.append (um _)
   |succ i =>
     rw[aw,df,df,bw,bw];exact(um _).append (ih h)
theorem PM(k:l1)(d:eT):lg (k++[d])=lg k+(if d.isPut=true then 1 else 0):=by
 unfold lg;rw[j1,ak];cases h:d.isPut with
 |true=>simp[h];lia |false=>simp[h]
theorem HI.nd_all{n:Nat}{k:l1}{p:mu}{s:Hs}(hi:HI n k p s):∀(i:Nat) (t:Hs),(p++[s])[i]?=↑t->(t.1.flatten.map (·.1)).Nodup/\∀x∈t.1.flatten,x.1<lg (k.take i)
 |0,t,h=>by
   rw[hi.st0] at h;cases h;have:(eF n).1.flatten=[]:=by simp[eF]
   rw[this];exact⟨List.nodup_nil,λx D=>by cases D⟩
 |i+1,t',h=>by
   have g:=(aj.mp h).1;rw[ak,ft,hi.kp] at g;have Y:i<k.length:=by lia
   have j:i<(p++[s]).length:=by rw[ak,ft,hi.kp];lia
   have I:(p++[s])[i]?=↑(p++[s])[i]:=am _;have hd:k[i]?=↑k[i]:=am Y;have st:=hi.tr i _ _ _ hd I h;obtain⟨Z,U⟩:=HI.nd_all hi i _ I;have m:=PH (hi.all i _ I) hi.n5 st;have o:k.take (i+1)=k.take i++[k[i]]:=lj Y;generalize (p++[s])[i]=t at *;rw[o,PM];generalize k[i]=d at *;rcases m with⟨a,q,l,V,w,A,e⟩ | ⟨V,b,r,r',hr,e,sub⟩
   ·rw[V,aq rfl,e]
    have c:=O7 (ss:=t.1) (a:=a) (x:=(lg (k.take i),q,l)) ∅;refine⟨(c.map (·.1)).nodup_iff.mpr ?_,λx D=>?_⟩
    ·rw[bq,ci]
     refine⟨λu=>?_,Z⟩;obtain⟨x,D,ex⟩:=fb.mp u;have:=U x D;dsimp only at ex
     lia
    ·rcases cr.mp (c.mem_iff.mp D) with z |z
     ·rw[z];dsimp only;lia
     ·have:=U x z;lia
   ·rw[V,b7 (by decide),e,uo]
    have f:=PJ hr sub;refine⟨Z.sublist f,λx D=>?_⟩;have:x.1∈t.1.flatten.map (·.1):=f.subset (fb.mpr ⟨x,D,rfl⟩);obtain⟨y,v,B⟩:=fb.mp this;have:=U y v
    lia
def HI.nd(hi:HI n k p s):(s.1.flatten.map (·.1)).Nodup:=(hi.nd_all k.length s (by rw[<-hi.kp];simp)).1
def HI.stk(hi:HI n k p s):F9 14 s.1:=⟨hi.l5,hi.at.few,hi.at.good,hi.nd⟩
theorem PN(hi:HI n k p s)(ok:aM s.1 ts)(V:aX s.1 os) :
  sr [hA k (p++[s])] [.lst (iD os)]=↑(.tup [↥(ji 0 (tk s.1 os)-ji 0 (flat ts)),.lst ((hV (aS (tk s.1 os)) (flat ts) (flat ts).length).map iT),.lst (dZ (aS (tk s.1 os)) ts ts.length++qh (tk s.1 os) ts)]):=by
 have U:=hi.at;have l5:=hi.l5;have Y:=U.few;have I:=Hx ok U.good Y ∅;have b:os.length<=14:=by rw[V.len];exact Y
 have c:=Go V U.good ∅ ∅;have Z:=Gs ok I U.good ∅ Y;have a:=Oc ok I V hi.stk;rw[BR ok,show(ts.map (·.2)).flatten=flat ts from rfl] at Z a;have d:=PF ok I V U.good hi.nd ∅ Y;unfold sr cB;rw[aq ⟨rfl,rfl⟩,show nc 4 [hA k (p++[s])] [.lst (iD os)]=[↑(.ro kH (hP k (p++[s]))),!.lst (iD os),none,none] from rfl];have e:([D.int (ji 0 (tk s.1 os)-ji 0 (flat ts)),.lst ((hV (aS (tk s.1 os)) (flat ts) (flat ts).length).map iT),.lst (dZ (aS (tk s.1 os)) ts ts.length++qh (tk s.1 os) ts)]:k7).length<=64:=Nat.le_of_ble_eq_true rfl;have f:=wj (k:=k) (p:=p) (s:=s);generalize (hV (aS (tk s.1 os)) (flat ts) (flat ts).length).map iT=TP at *;generalize dZ (aS (tk s.1 os)) ts ts.length++qh (tk s.1 os) ts=WM at *;generalize ji 0 (tk s.1 os)=c1 at *;generalize ji 0 (flat ts)=c2 at *;generalize iD os=OL at *;generalize aG s.1=SS at *;simp[Cq,sF,gP,GV,f,c,Z,a,d,bA]
abbrev Rn:=Bool×Int×Int×Int×Int
inductive nC (N:Int):List Rn->Int->Prop
 |nil:nC N [] 0
 |cons {r:Rn} {l:List Rn} {v V:Int}:N*r.2.2.2.1=v*r.2.2.2.2->nC N l V->nC N (r::l) (v+V)
structure St (l:ik) (w m s:Int):Prop where
 w:w=l.length
 e:l=[]->m=-1/\s=0
 n:l≠[]->m∈l/\(∀x∈l,m<=x)/\s=l.count m
end LB
namespace SQ
open PySem L2 LB
def HN:FS:=aZ (dO (aH (ni yd [3,4] (az (e7 sx (az (aB 5) (az (iF 4 0) (aC)))) (aC))))) (aJ (fC (.bl false))) (aO)
def HQ:FS:=aE (aI 1 (e7 rA (az (aB 0) (az [:63] (aC))))) (aE (aI 2 (e7 wN (az (aF 1 [:0]) (aC)))) (aE (qY 3 (qZ "House" rX (az (aB 2) (aC)))) (aE (qY 4 (uP wO (az (aB 2) (aC)))) (aE (cP 5 (cV (e7 Cu (az (aL (gT (aB 1) (gK [:1]) (gK (aD bA [:61] (aD bM (aD c_ (aF 1 [:0]) [:12]) [:61]))))) (aC)))) (HN)) (aE (aI 6 (iF 4 0)) (aE (aI 7 (fK (.ins false "House" kr) 3 (ky r_ [3] (aC)))) (aE (aI 8 (fK (.ins false "House" kr) 3 (ky pa [3] (aC)))) (aE (aZ (fS (dO (aH (e7 B0 (az (aB 7) (az (aB 6) (aC)))))) (dO (aH (e7 yk (az (aB 8) (aC)))))) (aJ (fC (.bl false))) (aO)) (aE (aZ (aH (aD jS (aB 8) (e7 vB (az (e7 vA (az (aB 6) (az (aB 7) (aC)))) (aC))))) (aJ (fC (.bl false))) (aO)) (aE (aI 9 (e7 Bg (az (aB 6) (az (aD jw (aD cN (aF 1 [:61]) [:2147483647]) (aF 1 [:62])) (aC))))) (aE (aI 10 (e7 vB (az (e7 vA (az (aB 6) (az (aB 9) (aC)))) (aC)))) (aE (aI 11 (fK (.ins false "House" kr) 3 (ky sr [3] (az (aL (jv wv (az (aB 9) (aC)))) (aC))))) (aE (aZ (fS (dO (aH (fM "tuple" (aB 11)))) (fS (aH (aD jS (j6 11) [:3])) (dO (aH (e7 yk (az (aF 11 [:0]) (aC))))))) (aJ (fC (.bl false))) (aO)) (aJ (yv (aD iK (aB 10) (aB 8)) (aD b_ (aF 11 [:0]) (aD bA (aB 10) (aB 8))))))))))))))))))
def HR:k7->k8:=aR 12 1 HQ
end SQ
namespace SQ
open PySem L2 LB PyProof.Rows
def bZ(i:Nat):Stmt:=PySem.Challenge.pw_rotstacks_k33_whole_least.main.body.getD i (.Pass ⟨0,0,0,0⟩)
def jI(j:Nat):Stmt:=match bZ 75 with | .ClassDef _ _ _ b _ _ _ _ _ _ _=>b.getD j (.Pass ⟨0,0,0,0⟩) |_=>.Pass ⟨0,0,0,0⟩
local macro_rules | `(tactic| walk_at "g") => `(tactic| first | exact zA (by kernel_rfl) | exact Aa (by kernel_rfl) | exact Am (by kernel_rfl))
local macro_rules | `(tactic| exists $t:term) => `(tactic| as_aux_lemma => exact $t)
local macro_rules | `(tactic| walk_at "b") => `(tactic| exact ⟨by walk_at "g", by assumption⟩)
def ok_all{P:Program}{w:World}{K:kf}{mg:Str->h8}{C:Addr}(T2:bU K mg (bZ 2) "sack_number" ["sack"])(T3:bU K mg (bZ 3) "sack_hours" ["sack"])(T4:bU K mg (bZ 4) "sack_loss" ["sack"])(T5:bU K mg (bZ 5) "sack_share" ["sack"])(T6:bU K mg (bZ 6) "sacks_in_all" ["stacks"])(T7:bU K mg (bZ 7) "loss_in_all" ["stacks"])(T8:bU K mg (bZ 8) "top_sack" ["stacks", "at"])(T9:bU K mg (bZ 9) "with_stack" ["stacks", "at", "stack"])(ct:bU K mg (bZ 10) "without_top" ["stacks", "at"])(cu:bU K mg (bZ 12) "share_gap" ["one", "other"])(cv:bU K mg (bZ 13) "share_sign" ["one", "other"])(c0:bU K mg (bZ 14) "single_block" ["sack"])(c1:bU K mg (bZ 15) "joined_block" ["upper", "lower"])(da:bU K mg (bZ 16) "block_share" ["block"])(dd:bU K mg (bZ 17) "has_greater_share" ["upper", "lower"])(dj:bU K mg (bZ 18) "stack_blocks" ["stack"])(dk:bU K mg (bZ 35) "turn_share" ["turn"])(dn:bU K mg (bZ 36) "place_of_turn" ["turns", "turn"])(dp:bU K mg (bZ 37) "block_turns" ["stacks"])(dr:bU K mg (bZ 38) "turn_sacks" ["stacks", "turns"])(ds:bU K mg (bZ 39) "told_order" ["stacks"])(bm:bU K mg (bZ 40) "check_known" ["stacks", "at"])(dt:bU K mg (bZ 41) "check_whole" ["stacks", "order"])(dv:bU K mg (bZ 42) "check_order" ["stacks", "order"])(dx:bU K mg (bZ 43) "taken_sacks" ["stacks", "order"])(d0:bU K mg (bZ 44) "sack_places" ["sacks"])(d1:bU K mg (bZ 46) "order_plan" ["stacks", "order"])(d2:bU K mg (bZ 47) "order_cost" ["stacks", "order"])(d3:bU K mg (bZ 48) "least_cost" ["stacks"])(d4:bU K mg (bZ 49) "turned_pairs" ["stacks", "order"])(ea:bU K mg (bZ 51) "hours_gone" ["stretches"])(eb:bU K mg (bZ 53) "block_debts" ["share", "sacks"])(ec:bU K mg (bZ 54) "turned_hours" ["first", "second", "places"])(ed:bU K mg (bZ 55) "turned_reasons" ["shares", "blocks", "places"])(ee:bU K mg (bZ 56) "plan_spans" ["plan"])(ef:bU K mg (bZ 57) "parted_reasons" ["shares", "blocks", "spans"])(eg:bU K mg (bZ 58) "why_more" ["stacks", "order"])(ei:bU K mg (bZ 65) "check_count" ["many"])(ej:bU K mg (bZ 66) "check_hours" ["hours"])(ek:bU K mg (bZ 67) "check_loss" ["loss"])(el:bU K mg (bZ 68) "check_room" ["stacks"])(en:bU K mg (bZ 69) "check_lies" ["stacks", "at"])(eo:bU K mg (bZ 70) "check_place" ["stack", "place"])(ep:bU K mg (bZ 71) "check_waits" ["stacks"])(er:bU K mg (bZ 72) "check_deeds" ["deeds"])(es:bU K mg (bZ 73) "next_number" ["deeds"])(et:bU K mg (bZ 74) "told_anew" ["sack", "loss"])(T:iG K C (jI 0) "__init__" "House.__init__" ["self", "many"])(X:iG K C (jI 1) "piles" "House.piles" ["self"])(aa:iG K C (jI 2) "spans" "House.spans" ["self"])(ab:iG K C (jI 3) "keep" "House.keep" ["self", "deed", "piles", "spans"])(ag:iG K C (jI 4) "put" "House.put" ["self", "at", "hours", "loss"])(al:iG K C (jI 5) "tell" "House.tell" ["self", "at", "place", "loss"])(an:iG K C (jI 6) "go" "House.go" ["self", "at"])(ap:iG K C (jI 8) "back" "House.back" ["self"])(ar:iG K C (jI 11) "hour" "House.hour" ["self"])(a0:iG K C (jI 7) "dry" "House.dry" ["self"])(a1:iG K C (jI 12) "order" "House.order" ["self"])(a2:iG K C (jI 14) "cost" "House.cost" ["self"])(a3:iG K C (jI 16) "against" "House.against" ["self", "order"])(eu:bU K mg (bZ 77) "_law_whole" ["_law_found"])(ev:bU K mg (bZ 78) "_law_at" ["_law_script", "_law_k"])(ew:bU K mg (bZ 79) "_law_draws" ["_law_script", "_law_many_here"])(ex:bU K mg (bZ 80) "_law_other" ["_law_stacks", "_law_figure"])(ey:bU K mg (bZ 81) "_law_best" ["_law_sacks"])(ez:bU K mg (bZ 82) "_law_turns" ["_law_stacks"])(e0:bU K mg (bZ 83) "_law_told" ["_law_stacks"])(e1:bU K mg (bZ 84) "_law_another" ["_law_stacks", "_law_figure"])(e2:bU K mg (bZ 85) "_law_taken" ["_law_stacks", "_law_order"])(e3:bU K mg (bZ 86) "_law_cost" ["_law_sacks"])(e4:bU K mg (bZ 87) "_law_is_order" ["_law_found", "_law_stacks"])(e5:bU K mg (bZ 88) "_law_same_row" ["_law_found", "_law_due"])(e6:bU K mg (bZ 89) "_law_kind" ["_law_error"])(e8:bU K mg (bZ 90) "_law_deed" ["_law_cell", "_law_piles"])(e9:bU K mg (bZ 91) "_law_refusal" ["_law_piles", "_law_kept", "_law_deed_here"])(fa:bU K mg (bZ 92) "_law_ask" ["_law_house", "_law_deed_here"])(fc:bU K mg (bZ 93) "_law_call" ["_law_house", "_law_deed_here"])(fe:bU K mg (bZ 94) "_law_step" ["_law_piles", "_law_deed_here", "_law_number"])(fg:bU K mg (bZ 95) "_law_rate" ["_law_piles"])(fh:bU K mg (bZ 96) "_law_same_answer" ["_law_found", "_law_due"])(fi:bU K mg (bZ 97) "_law_many" ["_law_header"])(fk:bU K mg (bZ 98) "_law_rates" ["_law_dried"])(fl:bU K mg (bZ 99) "_law_do" ["_law_house", "_law_state", "_law_deed_here"])(bo:bU K mg (bZ 100) "_law_new" ["_law_many_here"])(bp:bU K mg (bZ 101) "_law_cells" ["_law_cells_here"])(z:Cl K "House" C)(cs:iO K C)(mC:mg "House" = ↑(.ref C))(kC:PySem.W.makesIn K C=true)(pC:PySem.W.keepIn K (.ref C)=true)(a4:PySem.W.findIn K (.ref C) "kept" = ↑none)(L:PySem.W.findIn K (.ref C) "states" = ↑none)(q:jL K mg "BadCount")(s:jL K mg "BadHours")(A:jL K mg "BadLoss")(o:jL K mg "DeedsFull")(m:jL K mg "EmptyStack")(p:jL K mg "HouseFull")(l:jL K mg "NothingDone")(g:jL K mg "NothingWaits")(i:jL K mg "UnknownPlace")(j:jL K mg "UnknownStack")(b:∃t,mg "MOST_DEEDS" = ↑(.int 60 t))(c:∃t,mg "MOST_HOURS" = ↑(.int 60 t))(d:∃t,mg "MOST_LOSS" = ↑(.int 100 t))(Z:∃t,mg "MOST_STACKS" = ↑(.int 5 t))(Y:∃t,mg "MOST_WAITING" = ↑(.int 14 t))(B:eL K mg)(R:mg "ValueError" = none)(co:mg "bool" = none)(cp:mg "dict" = none)(a5:mg "enumerate" = none)(fp:mg "int" = none)(S:mg "isinstance" = none)(fr:mg "len" = none)(cq:mg "list" = none)(fs:mg "max" = none)(br:mg "range" = none)(fv:mg "str" = none)(fw:mg "sum" = none)(bs:mg "tuple" = none)(f0:mg "zip" = none):∀base f fd,h_ K "law" "law" (bZ 102) f fd->cK P w K mg base bQ 11 f fd ["_law_script"] (cH K HR):=by
 intro base;have D:qT K "House" "kept":=⟨C,cs,a4,z⟩;have U:qT K "House" "states":=⟨C,cs,L,z⟩;have M:bO P w K mg base bQ "sack_number" 1 (cH K qv):=by exists j8 T2 ["sack"] λr a t=>eh (ig (fy cy a))
 have c3:bO P w K mg base bQ "sack_hours" 1 (cH K ue):=by exists j8 T3 ["sack"] λr a t=>eh (ig (fy cy a))
 have c4:bO P w K mg base bQ "sack_loss" 1 (cH K yf):=by exists j8 T4 ["sack"] λr a t=>eh (ig (fy cy a))
 have c5:bO P w K mg base bQ "sack_share" 2 (cH K vE):=by exists j8 T5 ["sack"] λr a t=>eh (ig (ma (bj (gz c3 r (bj (bh a) cz)) (bj (gz c4 r (bj (bh a) cz)) cz))))
 have c6:bO P w K mg base bQ "sacks_in_all" 1 (cH K vH):=by exists j8 T6 ["stacks"] λr a t=>eh (ig (lY (bj (i8 (x8 a (lv (bh a)) (λ_ _ _ _ _ _ _ a=>mn a))) cz)))
 have c7:bO P w K mg base bQ "loss_in_all" 2 (cH K B3):=by exists j8 T7 ["stacks", "total", "stack"] λr a t=>dz (gw t cy) (dz (om (lv (bh a)) t.pg (eh (mH t (lY (bj (i8 (x8 a (lv (bh a)) (λ_ _ _ _ _ _ _ a=>gz c4 r (bj (bh a) cz)))) cz))))) (eh (ig (bh a))))
 have c8:bO P w K mg base bQ "top_sack" 1 (cH K vJ):=by exists j8 T8 ["stacks", "at"] λr a t=>eh (ig (mq (fy (l3 (bh a) cy) a) cy))
 have c9:bO P w K mg base bQ "with_stack" 1 (cH K oJ):=by exists j8 T9 ["stacks", "at", "stack"] λr a t=>eh (ig (i8 (qa (i8 (qa (i8 (vv (bh a) x9 (u4 (l3 (bh a) cy)))) (i8 (j7 (bj (bh a) cz))))) (i8 (vv (bh a) (u4 (bh a)) x9)))))
 have bt:bO P w K mg base bQ "without_top" 2 (cH K vK):=by exists j8 ct ["stacks", "at"] λr a t=>eh (ig (gz c9 r (bj (bh a) (bj (bh a) (bj (i8 (vv (fy (l3 (bh a) cy) a) (u4 cy) x9)) cz)))))
 have a6:bO P w K mg base bQ "share_gap" 1 (cH K zh):=by exists j8 cu ["one", "other"] λr a t=>eh (ig (l3 (tz (fy cy a) (fy cy a)) (tz (fy cy a) (fy cy a))))
 have bu:bO P w K mg base bQ "share_sign" 2 (cH K yl):=by exists j8 cv ["one", "other", "gap"] λr a t=>dz (gw t (gz a6 r (bj (bh a) (bj (bh a) cz)))) (dz (jm (o6 (bh a) cy) (eh (ig cy)) ju) (dz (jm (rq (bh a) cy) (eh (ig (wy cy))) ju) (eh (ig cy))))
 have f1:bO P w K mg base bQ "single_block" 2 (cH K uX):=by exists j8 c0 ["sack"] λr a t=>eh (ig (ma (bj cy (bj (gz c3 r (bj (bh a) cz)) (bj (gz c4 r (bj (bh a) cz)) cz)))))
 have f2:bO P w K mg base bQ "joined_block" 1 (cH K uY):=by exists j8 c1 ["upper", "lower"] λr a t=>eh (ig (ma (bj (mi (fy cy a) (fy cy a)) (bj (mi (fy cy a) (fy cy a)) (bj (mi (fy cy a) (fy cy a)) cz)))))
 have bv:bO P w K mg base bQ "block_share" 1 (cH K rB):=by exists j8 da ["block"] λr a t=>eh (ig (ma (bj (fy cy a) (bj (fy cy a) cz))))
 have f3:bO P w K mg base bQ "has_greater_share" 3 (cH K yp):=by exists j8 dd ["upper", "lower"] λr a t=>eh (ig (Kv (gz bu r (bj (gz bv r (bj (bh a) cz)) (bj (gz bv r (bj (bh a) cz)) cz))) cy))
 have f4:bO P w K mg base bQ "stack_blocks" 4 (cH K AG):=by exists j8 dj ["stack", "blocks", "sack", "block"] λr a t=>dz (nj (t.psF (j7 cz))) (dz (om (lv (bh a)) t.pg (dz (gw t (gz f1 r (bj (bh a) cz))) (dz (zW (cT (vj (o6 (mn a) cy) (vn (vi (r8 (gz f3 r (bj (fy (wy cy) a) (bj (bh a) cz)))))))) (eh (gw t (gz f2 r (bj (KQ a) (bj (bh a) cz)))))) (eh (lc (t5 (bh a) a)))))) (eh (ig (bh a))))
 have bk:bO P w K mg base bQ "turn_share" 1 (cH K yj):=by exists j8 dk ["turn"] λr a t=>eh (ig (ma (bj (fy cy a) (bj (fy cy a) cz))))
 have f5:bO P w K mg base bQ "place_of_turn" 3 (cH K AJ):=by exists j8 dn ["turns", "turn", "place"] λr a t=>dz (gw t cy) (dz (zW (cT (vj (rq (bh a) (mn a)) (vn (nM (gz bu r (bj (gz bk r (bj (fy (bh a) a) cz)) (bj (gz bk r (bj (bh a) cz)) cz))) cy)))) (eh (mH t cy))) (eh (ig (bh a))))
 have bx:bO P w K mg base bQ "block_turns" 5 (cH K yo):=by exists j8 dp ["stacks", "turns", "at", "stack", "many", "hours", "loss", "turn"] λr a t=>dz (nj (t.psF (j7 cz))) (dz (mE (L0 (bj (bh a) cz)) (l6 t (l6 t uw)) (eh (tZ (lv (gz f4 r (bj (bh a) cz))) (l6 t (l6 t (l6 t uw))) (dz (gw t (ma (bj (bh a) (bj (bh a) (bj (bh a) (bj (bh a) cz)))))) (eh (lc (Ek (LI f5 r (LG (LF (bj (bh a) cz)) a)) (bh a) a))))))) (eh (ig (bh a))))
 have ga:bO P w K mg base bQ "turn_sacks" 1 (cH K Bq):=by exists j8 dr ["stacks", "turns", "taken", "sacks", "at", "many", "hours", "loss", "begin"] λr a t=>dz (nj (mB a t (lv (bh a)) (λ_ _ _ _ _ _ _ a=>cy))) (dz (nj (t.psF (j7 cz))) (dz (tZ (lv (bh a)) (l6 t (l6 t (l6 t (l6 t uw)))) (dz (gw t (fy (l3 (bh a) cy) a)) (dz (qF (l3 (bh a) cy) (mi (bh a) (bh a)) a) (eh (lc (t5 (i8 (vv (fy (l3 (bh a) cy) a) (u4 (bh a)) (u4 (mi (bh a) (bh a))))) a)))))) (eh (ig (bh a)))))
 have a7:bO P w K mg base bQ "told_order" 6 (lH K zi):=by exists A7 ds ["stacks", "order", "at", "many", "hours", "loss"] λr a t=>dz (nj (t.psF (j7 cz))) (dz (tZ (lv (gz bx r (bj (bh a) cz))) (l6 t (l6 t (l6 t (l6 t uw)))) (eh (lc (L6 (Ad (j7 (bj (bh a) cz)) (bh a)) a)))) (eh (zT a)))
 have N:bO P w K mg base (dX P w) "check_known" 1 (f_ K oU zj):=by exists xt bm ["stacks", "at"] λr a t=>eh (jm (cT (qr (rq (bh a) cy) (sd (o6 (bh a) (mn a))))) (eh (xk j uH)) ju)
 have gb:bO P w K mg base bQ "check_known" 1 (cH K AU):=by exists j8 bm ["stacks", "at"] λr a t=>eh (jm (cT (qr (rq (bh a) cy) (sd (o6 (bh a) (mn a))))) (eh zU) ju)
 have gd:bO P w K mg base bQ "check_whole" 1 (cH K AW):=by exists j8 dt ["stacks", "order", "left", "at"] λr a t=>dz (nj (mB a t (lv (bh a)) (λ_ _ _ _ _ _ _ a=>mn a))) (dz (om (lv (bh a)) t.pg (dz (jm (lz (fy (l3 (bh a) cy) a) cy) (eh zU) ju) (eh (L5 (l3 (bh a) cy) cy a)))) (eh (jm (o6 (E3 a) cy) (eh zU) ju)))
 have gj:bO P w K mg base bQ "check_order" 2 (cH K AY):=by exists j8 dv ["stacks", "order", "at"] λr a t=>dz (om (lv (bh a)) t.pg (eh (lc (gz gb r (bj (bh a) (bj (bh a) cz)))))) (eh (lc (gz gd r (bj (bh a) (bj (bh a) cz)))))
 have O:bO P w K mg base bQ "taken_sacks" 3 (cH K mY):=by exists j8 dx ["stacks", "order", "taken", "sacks", "at"] λr a t=>dz (lc (gz gj r (bj (bh a) (bj (bh a) cz)))) (dz (nj (mB a t (lv (bh a)) (λ_ _ _ _ _ _ _ a=>cy))) (dz (nj (t.psF (j7 cz))) (dz (om (lv (bh a)) t.pg (dz (lc (t5 (mq (fy (l3 (bh a) cy) a) (fy (l3 (bh a) cy) a)) a)) (eh (L4 (l3 (bh a) cy) cy a)))) (eh (ig (bh a))))))
 have b0:bO P w K mg base bQ "sack_places" 2 (cH K vF):=by exists j8 d0 ["sacks"] λr a t=>eh (ig (EQ (bj (i8 (E8 ["place", "sack"] a (t_ (bj (bh a) cz)) (λ_ _ _ _ _ t=>l6 t (l6 t uw)) (λ_ _ _ _ _ _ _ a=>ma (bj (gz M r (bj (bh a) cz)) (bj (bh a) cz))))) cz)))
 have gp:bO P w K mg base bQ "order_plan" 4 (cH K Bb):=by exists j8 d1 ["stacks", "order", "plan", "hour", "at", "sack", "dry"] λr a t=>dz (nj (t.psF (j7 cz))) (dz (gw t cy) (dz (mE (Ex (bj (bh a) (bj (gz O r (bj (bh a) (bj (bh a) cz))) cz))) (l6 t (l6 t uw)) (dz (gw t (mi (bh a) (gz c3 r (bj (bh a) cz)))) (dz (lc (t5 (ma (bj (gz M r (bj (bh a) cz)) (bj (bh a) (bj (bh a) (bj (bh a) cz))))) a)) (eh (gw t (bh a)))))) (eh (ig (bh a)))))
 have b1:bO P w K mg base bQ "order_cost" 4 (cH K v8):=by exists j8 d2 ["stacks", "order", "cost", "hour", "sack"] λr a t=>dz (gw t cy) (dz (gw t cy) (dz (om (lv (gz O r (bj (bh a) (bj (bh a) cz)))) t.pg (dz (mH t (gz c3 r (bj (bh a) cz))) (eh (mH t (tz (gz c4 r (bj (bh a) cz)) (bh a)))))) (eh (ig (bh a)))))
 have b2:bO P w K mg base bQ "least_cost" 7 (cH K rJ):=by exists j8 d3 ["stacks"] λr a t=>eh (ig (gz b1 r (bj (bh a) (bj (i8 (nN a7 r (bj (bh a) cz))) cz))))
 have gq:bO P w K mg base bQ "turned_pairs" 7 (cH K Bx):=by exists j8 d4 ["stacks", "order", "places", "told", "pairs", "place", "ahead", "other", "amount"] λr a t=>dz (gw t (gz b0 r (bj (gz O r (bj (bh a) (bj (bh a) cz))) cz))) (dz (gw t (gz O r (bj (bh a) (bj (i8 (nN a7 r (bj (bh a) cz))) cz)))) (dz (nj (t.psF (j7 cz))) (dz (mE (t_ (bj (bh a) cz)) (l6 t (l6 t uw)) (eh (om (lv (i8 (vv (bh a) (u4 (mi (bh a) cy)) x9))) t.pg (eh (jm (rq (nX r (bh a) (gz M r (bj (bh a) cz))) (nX r (bh a) (gz M r (bj (bh a) cz)))) (dz (gw t (gz a6 r (bj (gz c5 r (bj (bh a) cz)) (bj (gz c5 r (bj (bh a) cz)) cz)))) (eh (lc (t5 (ma (bj (gz M r (bj (bh a) cz)) (bj (gz M r (bj (bh a) cz)) (bj (bh a) cz)))) a)))) ju))))) (eh (ig (bh a))))))
 have gr:bO P w K mg base bQ "hours_gone" 1 (cH K wh):=by exists j8 ea ["stretches"] λr a t=>dz (jm (lz (mn a) cy) (eh (ig cy)) ju) (eh (ig (mq (fy (wy cy) a) cy)))
 have gs:bO P w K mg base bQ "block_debts" 2 (cH K vD):=by exists j8 eb ["share", "sacks", "debts", "hours", "loss", "sack"] λr a t=>dz (nj (t.psF (j7 cz))) (dz (gw t cy) (dz (gw t cy) (dz (om (lv (i8 (vv (bh a) x9 (u4 (wy cy))))) t.pg (dz (mH t (gz c3 r (bj (bh a) cz))) (dz (mH t (gz c4 r (bj (bh a) cz))) (eh (lc (t5 (gz a6 r (bj (bh a) (bj (ma (bj (bh a) (bj (bh a) cz))) cz))) a)))))) (eh (ig (bh a))))))
 have gu:bO P w K mg base bQ "turned_hours" 2 (cH K Cg):=by exists j8 ec ["first", "second", "places", "total", "one", "two"] λr a t=>dz (gw t cy) (dz (om (lv (bh a)) t.pg (eh (om (lv (bh a)) t.pg (eh (jm (rq (nX r (bh a) (gz M r (bj (bh a) cz))) (nX r (bh a) (gz M r (bj (bh a) cz)))) (eh (mH t (tz (gz c3 r (bj (bh a) cz)) (gz c3 r (bj (bh a) cz))))) ju))))) (eh (ig (bh a))))
 have gx:bO P w K mg base bQ "turned_reasons" 3 (cH K Ci):=by exists j8 ed ["shares", "blocks", "places", "reasons", "turn", "first", "later", "second", "over", "under"] λr a t=>dz (nj (t.psF (j7 cz))) (dz (mE (t_ (bj (bh a) cz)) (l6 t (l6 t uw)) (eh (om (KI (bj (mi (bh a) cy) (bj (mn a) cz))) t.pg (dz (gw t (fy (bh a) a)) (dz (gw t (tz (gz a6 r (bj (fy (bh a) a) (bj (fy (bh a) a) cz))) (gz gu r (bj (bh a) (bj (bh a) (bj (bh a) cz)))))) (eh (jm (o6 (bh a) cy) (dz (gw t (tz (mq (fy (bh a) a) cy) (mq (fy (bh a) a) cy))) (eh (lc (t5 (ma (bj jk (bj (gz M r (bj (fy cy a) cz)) (bj (gz M r (bj (fy cy a) cz)) (bj (bh a) (bj (bh a) cz)))))) a)))) ju))))))) (eh (ig (bh a))))
 have gy:bO P w K mg base bQ "plan_spans" 1 (cH K Ck):=by exists j8 ee ["plan"] λr a t=>eh (ig (EQ (bj (i8 (E8 ["number", "at", "begun", "dry"] a (LK (lv (bh a))) (λ_ _ _ _ _ t=>l6 t (l6 t (l6 t (l6 t uw)))) (λ_ _ _ _ _ _ _ a=>ma (bj (bh a) (bj (ma (bj (bh a) (bj (bh a) cz))) cz))))) cz)))
 have g0:bO P w K mg base bQ "parted_reasons" 3 (cH K Co):=by exists j8 ef ["shares", "blocks", "spans", "reasons", "share", "sacks", "place", "debt", "one", "two", "over"] λr a t=>dz (nj (t.psF (j7 cz))) (dz (mE (Ex (bj (bh a) (bj (bh a) cz))) (l6 t (l6 t uw)) (eh (mE (t_ (bj (gz gs r (bj (bh a) (bj (bh a) cz))) cz)) (l6 t (l6 t uw)) (dz (gw t (gz M r (bj (fy (bh a) a) cz))) (dz (gw t (gz M r (bj (fy (mi (bh a) cy) a) cz))) (dz (gw t (tz (bh a) (l3 (mq (nX r (bh a) (bh a)) cy) (mq (nX r (bh a) (bh a)) cy)))) (eh (jm (o6 (bh a) cy) (eh (lc (t5 (ma (bj jk (bj (bh a) (bj (bh a) (bj (bh a) (bj (fy cy a) cz)))))) a))) ju)))))))) (eh (ig (bh a))))
 have g1:bO P w K mg base bQ "why_more" 6 (cH K Cp):=by exists j8 eg ["stacks", "order", "plan", "places", "turns", "blocks", "shares"] λr a t=>dz (gw t (gz gp r (bj (bh a) (bj (bh a) cz)))) (dz (gw t (gz b0 r (bj (gz O r (bj (bh a) (bj (bh a) cz))) cz))) (dz (gw t (gz bx r (bj (bh a) cz))) (dz (gw t (gz ga r (bj (bh a) (bj (bh a) cz)))) (dz (tX (mB a t (lv (bh a)) (λ_ _ _ _ _ _ _ a=>gz bk r (bj (bh a) cz)))) (eh (ig (i8 (qa (gz gx r (bj (bh a) (bj (bh a) (bj (bh a) cz)))) (gz g0 r (bj (bh a) (bj (bh a) (bj (gz gy r (bj (bh a) cz)) cz))))))))))))
 have b3:bO P w K mg base (dX P w) "check_count" 1 (f_ K w5 w6):=by exists xt ei ["many"] λr a t=>eh (jm (cT (qr (rq (bh a) cy) (sd (o6 (bh a) (xh Z))))) (eh (xk q (ou (ub za (ub (oq (xh Z)) (ub za ot)))))) ju)
 have b4:bO P w K mg base (dX P w) "check_hours" 1 (f_ K wA oV):=by exists xt ej ["hours"] λr a t=>eh (jm (cT (qr (rq (bh a) cy) (sd (o6 (bh a) (xh c))))) (eh (xk s (ou (ub za (ub (oq (xh c)) (ub za ot)))))) ju)
 have a8:bO P w K mg base (dX P w) "check_loss" 1 (f_ K rW np):=by exists xt ek ["loss"] λr a t=>eh (jm (cT (qr (rq (bh a) cy) (sd (o6 (bh a) (xh d))))) (eh (xk A (ou (ub za (ub (oq (xh d)) ot))))) ju)
 have b5:bO P w K mg base (dX P w) "check_room" 2 (f_ K wC oW):=by exists xt el ["stacks"] λr a t=>eh (jm (nM (gz c6 r (bj (bh a) cz)) (xh Y)) (eh (xk p (ou (ub (oq (xh Y)) (ub za ot))))) ju)
 have a9:bO P w K mg base (dX P w) "check_lies" 1 (f_ K s0 nu):=by exists xt en ["stacks", "at"] λr a t=>eh (jm (lz (y7 (bj (fy (l3 (bh a) cy) a) cz)) cy) (eh (xk m (ou (ub za (ub (oq (bh a)) ot))))) ju)
 have ca:bO P w K mg base (dX P w) "check_place" 1 (f_ K wR pu):=by exists xt eo ["stack", "place"] λr a t=>eh (jm (cT (qr (rq (bh a) cy) (sd (o6 (bh a) (mn a))))) (eh (xk i uH)) ju)
 have cc:bO P w K mg base (dX P w) "check_waits" 2 (f_ K wI oY):=by exists xt ep ["stacks"] λr a t=>eh (jm (lz (gz c6 r (bj (bh a) cz)) cy) (eh (xk g uH)) ju)
 have x:bO P w K mg base (dX P w) "check_deeds" 1 (f_ K nq yn):=by exists xt er ["deeds"] λr a t=>eh (jm (nM (mn a) (xh b)) (eh (xk o (ou (ub (oq (xh b)) (ub za ot))))) ju)
 have g2:bO P w K mg base bQ "next_number" 1 (cH K wE):=by exists j8 es ["deeds"] λr a t=>eh (ig (mi cy (y7 (bj (i8 (Ef a (lv (bh a)) (λ_ _ _ _ _ _ _ a=>lz (fy cy a) jk) (λ_ _ _ _ _ _ _ a=>bh a))) cz))))
 have g3:bO P w K mg base bQ "told_anew" 2 (cH K Cv):=by exists j8 et ["sack", "loss"] λr a t=>eh (ig (ma (bj (gz M r (bj (bh a) cz)) (bj (gz c3 r (bj (bh a) cz)) (bj (bh a) cz)))))
 have ba:mO P w K mg base "House" 2 (gG K rX BW):=by exists MB z mC kC pC T ["self", "many"] λr a t=>dz (o8 (lc (sv b3 r (l4 (bj (bh a) cz)))) (sj (sg b3 r (l4 (bj (bh a) cz))))) (dz (Ft D a (j7 cz)) (eh (Ft U a (j7 (bj (ma (bj (i8 (x8 a (yc (bj (bh a) cz)) (λ_ _ _ _ _ _ _ a=>i8 (j7 cz)))) (bj (i8 (j7 cz)) cz))) cz)))))
 have V:dR P w K mg base "House" "piles" 1 (f_ K vp Ol):=by exists oE z cs X ["self"] λr a t=>eh (ig (mq (Fj (mT U a) (Fi Fh)) cy))
 have e:dR P w K mg base "House" "spans" 1 (f_ K xn Om):=by exists oE z cs aa ["self"] λr a t=>eh (ig (mq (Fj (mT U a) (Fi Fh)) cy))
 have k:dR P w K mg base "House" "keep" 1 (gG K wm On):=by exists oF z cs ab ["self", "deed", "piles", "spans"] λr a t=>dz (lc (uL (mT D a) (bh a))) (eh (lc (uL (mT U a) (ma (bj (bh a) (bj (bh a) cz))))))
 have E:dR P w K mg base "House" "put" 3 (gG K rY oX):=by exists oF z cs ag ["self", "at", "hours", "loss", "piles", "number", "stack"] λr a t=>dz (gw t (t4 V r a)) (dz (o8 (lc (sv N r (l4 (bj (bh a) (bj (bh a) cz))))) (sj (sg N r (l4 (bj (bh a) (bj (bh a) cz)))))) (dz (o8 (lc (sv b4 r (l4 (bj (bh a) cz)))) (sj (sg b4 r (l4 (bj (bh a) cz))))) (dz (o8 (lc (sv a8 r (l4 (bj (bh a) cz)))) (sj (sg a8 r (l4 (bj (bh a) cz))))) (dz (o8 (lc (sv b5 r (l4 (bj (bh a) cz)))) (sj (sg b5 r (l4 (bj (bh a) cz))))) (dz (o8 (lc (y9 (λ_ _=>sv x r (l4 (bj (yb D a) cz))))) (sj (uR (λ_ _=>sg x r (l4 (bj (yb D a) cz)))))) (dz (gw t (y9 (λ_ _=>gz g2 r (bj (yb D a) cz)))) (dz (gw t (i8 (qa (i8 (j7 (bj (ma (bj (bh a) (bj (bh a) (bj (bh a) cz)))) cz))) (fy (l3 (bh a) cy) a)))) (dz (lc (mS k r (bj (ma (bj jk (bj (bh a) (bj (bh a) (bj (bh a) cz))))) (bj (gz c9 r (bj (bh a) (bj (bh a) (bj (bh a) cz)))) (bj (t4 e r a) cz))) a)) (eh (ig (bh a)))))))))))
 have F:dR P w K mg base "House" "tell" 3 (gG K sC pw):=by exists oF z cs al ["self", "at", "place", "loss", "piles", "stack", "sack", "changed"] λr a t=>dz (gw t (t4 V r a)) (dz (o8 (lc (sv N r (l4 (bj (bh a) (bj (bh a) cz))))) (sj (sg N r (l4 (bj (bh a) (bj (bh a) cz)))))) (dz (o8 (lc (sv a9 r (l4 (bj (bh a) (bj (bh a) cz))))) (sj (sg a9 r (l4 (bj (bh a) (bj (bh a) cz)))))) (dz (gw t (fy (l3 (bh a) cy) a)) (dz (o8 (lc (sv ca r (l4 (bj (bh a) (bj (bh a) cz))))) (sj (sg ca r (l4 (bj (bh a) (bj (bh a) cz)))))) (dz (o8 (lc (sv a8 r (l4 (bj (bh a) cz)))) (sj (sg a8 r (l4 (bj (bh a) cz))))) (dz (o8 (lc (y9 (λ_ _=>sv x r (l4 (bj (yb D a) cz))))) (sj (uR (λ_ _=>sg x r (l4 (bj (yb D a) cz)))))) (dz (gw t (fy (l3 (bh a) cy) a)) (dz (gw t (i8 (qa (i8 (qa (i8 (vv (bh a) x9 (u4 (l3 (bh a) cy)))) (i8 (j7 (bj (gz g3 r (bj (bh a) (bj (bh a) cz))) cz))))) (i8 (vv (bh a) (u4 (bh a)) x9))))) (dz (lc (mS k r (bj (ma (bj jk (bj (bh a) (bj (bh a) (bj (bh a) cz))))) (bj (gz c9 r (bj (bh a) (bj (bh a) (bj (bh a) cz)))) (bj (t4 e r a) cz))) a)) (eh (ig (gz c4 r (bj (bh a) cz)))))))))))))
 have G:dR P w K mg base "House" "go" 3 (gG K sA pc):=by exists oF z cs an ["self", "at", "piles"] λr a t=>dz (gw t (t4 V r a)) (dz (o8 (lc (sv N r (l4 (bj (bh a) (bj (bh a) cz))))) (sj (sg N r (l4 (bj (bh a) (bj (bh a) cz)))))) (dz (o8 (lc (sv a9 r (l4 (bj (bh a) (bj (bh a) cz))))) (sj (sg a9 r (l4 (bj (bh a) (bj (bh a) cz)))))) (dz (o8 (lc (y9 (λ_ _=>sv x r (l4 (bj (yb D a) cz))))) (sj (uR (λ_ _=>sg x r (l4 (bj (yb D a) cz)))))) (dz (lc (mS k r (bj (ma (bj jk (bj (bh a) cz))) (bj (gz bt r (bj (bh a) (bj (bh a) cz))) (bj (t4 e r a) cz))) a)) (eh (ig (gz c8 r (bj (bh a) (bj (bh a) cz)))))))))
 have H:dR P w K mg base "House" "back" 1 (gG K sI p5):=by exists oF z cs ap ["self"] λr a t=>dz (jm (lz (Fg (mT D a)) cy) (eh (xk l uH)) ju) (dz (lc (uK (mT U a))) (eh (ig (uK (mT D a)))))
 have bb:dR P w K mg base "House" "hour" 2 (f_ K wG Oo):=by exists oE z cs ar ["self"] λr a t=>eh (ig (gz gr r (bj (t4 e r a) cz)))
 have J:dR P w K mg base "House" "dry" 7 (gG K rZ o_):=by exists oF z cs a0 ["self", "piles", "at", "sack", "begun", "stretch"] λr a t=>dz (gw t (t4 V r a)) (dz (o8 (lc (sv cc r (l4 (bj (bh a) cz)))) (sj (sg cc r (l4 (bj (bh a) cz))))) (dz (o8 (lc (y9 (λ_ _=>sv x r (l4 (bj (yb D a) cz))))) (sj (uR (λ_ _=>sg x r (l4 (bj (yb D a) cz)))))) (dz (gw t (mq (i8 (nN a7 r (bj (bh a) cz))) cy)) (dz (gw t (gz c8 r (bj (bh a) (bj (bh a) cz)))) (dz (gw t (t4 bb r a)) (dz (gw t (ma (bj (bh a) (bj (mi (bh a) (gz c3 r (bj (bh a) cz))) (bj (gz c7 r (bj (bh a) cz)) cz))))) (dz (lc (mS k r (bj (ma (bj jk cz)) (bj (gz bt r (bj (bh a) (bj (bh a) cz))) (bj (i8 (qa (t4 e r a) (i8 (j7 (bj (bh a) cz))))) cz))) a)) (eh (ig (bh a))))))))))
 have bd:dR P w K mg base "House" "order" 7 (f_ K r_ Op):=by exists oE z cs a1 ["self"] λr a t=>eh (ig (i8 (nN a7 r (bj (t4 V r a) cz))))
 have be:dR P w K mg base "House" "cost" 8 (f_ K pa Os):=by exists oE z cs a2 ["self"] λr a t=>eh (ig (gz b2 r (bj (t4 V r a) cz)))
 have bf:dR P w K mg base "House" "against" 8 (f_ K sr Oq):=by exists oE z cs a3 ["self", "order", "piles", "more"] λr a t=>dz (gw t (t4 V r a)) (dz (gw t (l3 (gz b1 r (bj (bh a) (bj (bh a) cz))) (gz b2 r (bj (bh a) cz)))) (eh (ig (ma (bj (bh a) (bj (gz gq r (bj (bh a) (bj (bh a) cz))) (bj (gz g1 r (bj (bh a) (bj (bh a) cz))) cz)))))))
 have Q:bO P w K mg base bQ "_law_whole" 1 (cH K yk):=by exists j8 eu ["_law_found"] λr a t=>eh (ig (zF (x0 Ld (bh a)) (zE (Kx (x0 Le (bh a))))))
 have g4:bO P w K mg base bQ "_law_at" 1 (cH K rz):=by exists j8 ev ["_law_script", "_law_k"] λr a t=>dz (jm (rq (bh a) (mn a)) (eh (ig (fy (bh a) a))) ju) (eh (ig cy))
 have g5:bO P w K mg base bQ "_law_draws" 2 (cH K rA):=by exists j8 ew ["_law_script", "_law_many_here", "_law_made", "_law_state", "_law_k", "_law_cell"] λr a t=>dz (nj (t.psF (j7 cz))) (dz (gw t cy) (dz (om (yc (bj (bh a) cz)) t.pg (dz (gw t (gz g4 r (bj (bh a) (bj (bh a) cz)))) (dz (jm (lz (o9 (mn a) cy) cy) (dz (gw t (o9 (mi (mi (mi (tz (bh a) cy) (bh a)) (bh a)) cy) cy)) (eh (gw t (o9 (tz (mi (bh a) (bh a)) cy) cy)))) ju) (eh (lc (t5 (bh a) a)))))) (eh (ig (bh a)))))
 have g6:bO P w K mg base bQ "_law_other" 1 (lH K Bf):=by exists A7 ex ["_law_stacks", "_law_figure", "_law_left", "_law_made", "_law_k", "_law_some", "_law_place"] λr a t=>dz (nj (t.psF (x8 a (lv (bh a)) (λ_ _ _ _ _ _ _ a=>mn a)))) (dz (nj (t.psF (j7 cz))) (dz (om (yc (bj (E3 a) cz)) t.pg (dz (tX (LD a t (L7 (yc (bj (mn a) cz))) (λ_ _ _ _ _ _ _ a=>o6 (fy (bh a) a) cy) (λ_ _ _ _ _ _ _ a=>bh a))) (dz (gw t (fy (o9 (bh a) (mn a)) a)) (dz (gw t (vk (bh a) (mn a))) (dz (qF (bh a) (l3 (fy (bh a) a) cy) a) (eh (lc (t5 (mi (bh a) cy) a)))))))) (eh (zT a))))
 have g7:bO P w K mg base bQ "_law_best" 1 (cH K rG):=by exists j8 ey ["_law_sacks", "_law_best_here", "_law_hours", "_law_loss", "_law_k"] λr a t=>dz (gw t (i8 (j7 (bj cy (bj cy (bj (wy cy) cz)))))) (dz (gw t cy) (dz (gw t cy) (dz (om (yc (bj (mn a) cz)) t.pg (dz (gw t (mi (bh a) (mq (fy (bh a) a) cy))) (dz (gw t (mi (bh a) (mq (fy (bh a) a) cy))) (eh (jm (nM (tz (bh a) (fy cy a)) (tz (fy cy a) (bh a))) (eh (gw t (i8 (j7 (bj (mi (bh a) cy) (bj (bh a) (bj (bh a) cz))))))) ju))))) (eh (ig (bh a))))))
 have cd:bO P w K mg base bQ "_law_turns" 2 (cH K rH):=by exists j8 ez ["_law_stacks", "_law_left", "_law_made", "_law_heads", "_law_pick", "_law_k"] λr a t=>dz (nj (mB a t (lv (bh a)) (λ_ _ _ _ _ _ _ a=>i8 (zJ (bj (bh a) cz))))) (dz (nj (t.psF (j7 cz))) (dz (zW (o6 (lY (bj (i8 (LA a (E2 a) (λ_ _ _ _ _ _ _ a=>mn a))) cz)) cy) (dz (tX (LC a t (E2 a) (λ_ _ _ _ _ _ _ a=>gz g7 r (bj (bh a) cz)))) (dz (gw t cy) (dz (om (yc (bj (mn a) cz)) t.pg (eh (jm (o6 (tz (mq (fy (bh a) a) cy) (mq (fy (bh a) a) cy)) (tz (mq (fy (bh a) a) cy) (mq (fy (bh a) a) cy))) (eh (gw t (bh a))) ju))) (dz (lc (t5 (ma (bj (mi (bh a) cy) (bj (mq (fy (bh a) a) cy) (bj (mq (fy (bh a) a) cy) (bj (mq (fy (bh a) a) cy) cz))))) a)) (eh (qF (bh a) (i8 (vv (fy (bh a) a) (u4 (mq (fy (bh a) a) cy)) x9)) a))))))) (eh (ig (bh a)))))
 have g8:bO P w K mg base bQ "_law_told" 3 (lH K AS):=by exists A7 e0 ["_law_stacks", "_law_made", "_law_turn"] λr a t=>dz (nj (t.psF (j7 cz))) (dz (om (lv (gz cd r (bj (bh a) cz))) t.pg (eh (nj (t.psF (qa (bh a) (i8 (Ad (j7 (bj (fy cy a) cz)) (fy cy a)))))))) (eh (zT a)))
 have g9:bO P w K mg base bQ "_law_another" 4 (cH K Bg):=by exists j8 e1 ["_law_stacks", "_law_figure", "_law_rest", "_law_made", "_law_number"] λr a t=>dz (gw t (vk (bh a) cy)) (dz (nj (t.psF (nN g6 r (bj (bh a) (bj (bh a) cz))))) (dz (jm (cT (vj (lz (o9 (bh a) cy) cy) (vn (o6 (mn a) cy)))) (dz (nj (t.psF (nN g8 r (bj (bh a) cz)))) (dz (gw t (KR (o9 (bh a) (mn a)) a)) (eh (lc (Ek (o9 (vk (bh a) cy) (mi (mn a) cy)) (bh a) a))))) ju) (eh (ig (bh a)))))
 have ch:bO P w K mg base bQ "_law_taken" 1 (cH K vA):=by exists j8 e2 ["_law_stacks", "_law_order", "_law_taken_here", "_law_made", "_law_at_here"] λr a t=>dz (nj (mB a t (lv (bh a)) (λ_ _ _ _ _ _ _ a=>cy))) (dz (nj (t.psF (j7 cz))) (dz (om (lv (bh a)) t.pg (dz (lc (t5 (mq (fy (l3 (bh a) cy) a) (fy (l3 (bh a) cy) a)) a)) (eh (qF (l3 (bh a) cy) (mi (fy (l3 (bh a) cy) a) cy) a)))) (eh (ig (bh a)))))
 have ck:bO P w K mg base bQ "_law_cost" 1 (cH K vB):=by exists j8 e3 ["_law_sacks", "_law_hour", "_law_total", "_law_sack"] λr a t=>dz (gw t cy) (dz (gw t cy) (dz (om (lv (bh a)) t.pg (dz (gw t (mi (bh a) (fy cy a))) (eh (gw t (mi (bh a) (tz (fy cy a) (bh a))))))) (eh (ig (bh a)))))
 have ha:bO P w K mg base bQ "_law_is_order" 2 (cH K B0):=by exists j8 e4 ["_law_found", "_law_stacks", "_law_taken_here", "_law_at_here", "_law_k"] λr a t=>dz (jm (vi (r8 (x0 Lf (bh a)))) (eh (ig ut)) ju) (dz (nj (mB a t (lv (bh a)) (λ_ _ _ _ _ _ _ a=>cy))) (dz (om (lv (bh a)) t.pg (dz (jm (cT (qr (vi (r8 (gz Q r (bj (bh a) cz)))) (qr (rq (bh a) cy) (sd (o6 (bh a) (mn a)))))) (eh (ig ut)) ju) (eh (qF (l3 (bh a) cy) (mi (fy (l3 (bh a) cy) a) cy) a)))) (dz (om (yc (bj (mn a) cz)) t.pg (eh (jm (z9 (fy (bh a) a) (y7 (bj (fy (bh a) a) cz))) (eh (ig ut)) ju))) (eh (ig ut)))))
 have bl:bO P w K mg base bQ "_law_same_row" 2 (cH K rC):=by exists j8 e5 ["_law_found", "_law_due", "_law_k"] λr a t=>dz (jm (cT (qr (vi (r8 (x0 Ac (bh a)))) (sd (z9 (mn a) (mn a))))) (eh (ig ut)) ju) (dz (om (yc (bj (mn a) cz)) t.pg (dz (jm (cT (vj (r8 (x0 Ab (fy (bh a) a))) (vn (vi (r8 (x0 Ab (fy (bh a) a))))))) (eh (ig ut)) ju) (dz (jm (cT (vj (vi (r8 (x0 Ab (fy (bh a) a)))) (vn (vi (r8 (gz Q r (bj (fy (bh a) a) cz))))))) (eh (ig ut)) ju) (eh (jm (z9 (fy (bh a) a) (fy (bh a) a)) (eh (ig ut)) ju))))) (eh (ig ut)))
 obtain⟨RA,hR,hS⟩:=B.rot;have kk:uT P w K mg base "_law_kind" 1 jN:=by exists MV e6 ["_law_error", "_law_kinds", "_law_words", "_law_found"] OH λu v y a t=>dz (gw t (i8 (j7 (bj (uv B u v y a) (bj (uv B u v y a) cz))))) (dz (gw t (i8 (qa (bh a) (i8 (j7 (bj (uv B u v y a) (bj (uv B u v y a) cz))))))) (dz (gw t (i8 (qa (bh a) (i8 (j7 (bj (uv B u v y a) (bj (uv B u v y a) cz))))))) (dz (gw t (i8 (qa (bh a) (i8 (j7 (bj (uv B u v y a) (bj (uv B u v y a) cz))))))) (dz (gw t (i8 (qa (bh a) (i8 (j7 (bj (uv B u v y a) (bj (uv B u v y a) cz))))))) (dz (gw t (i8 (qa (bh a) (i8 (j7 (bj (uv B u v y a) (bj (uv B u v y a) cz))))))) (dz (gw t (i8 (qa (bh a) (i8 (j7 (bj (uv B u v y a) cz)))))) (dz (gw t (i8 (j7 (bj jk (bj jk (bj jk (bj jk (bj jk (bj jk cz))))))))) (dz (gw t (i8 (qa (bh a) (i8 (j7 (bj jk (bj jk (bj jk (bj jk (bj jk cz)))))))))) (dz (gw t (i8 (qa (bh a) (i8 (j7 (bj jk (bj jk cz))))))) (dz (tX (KU (λ_ _ _ _ _ _ _ I h=>y.comp I h) a t (DZ (λit lo n=>MI it lo n) (bj cy cz)) (λ_ _ _ _ _ _ _ y a=>cT (vj (r8 (fy (bh a) a)) (vn (r8 (MU B u v y a))))) (λ_ _ _ _ _ _ _ y a=>fy (bh a) a))) (eh (ig (MP (bj (i8 (qa (i8 (j7 (bj jk cz))) (bh a))) cz))))))))))))))
 have hb:bO P w K mg base bQ "_law_deed" 1 (cH K sx):=by exists j8 e8 ["_law_cell", "_law_piles", "_law_many_here", "_law_words", "_law_word", "_law_odd", "_law_figure", "_law_at_here", "_law_hours", "_law_loss", "_law_tall", "_law_place"] λr a t=>dz (gw t (mn a)) (dz (gw t (i8 (j7 (bj jk (bj jk (bj jk (bj jk (bj jk (bj jk (bj jk (bj jk (bj jk (bj jk (bj jk (bj jk cz))))))))))))))) (dz (gw t (fy (o9 (bh a) cy) a)) (dz (gw t (o9 (vk (bh a) cy) cy)) (dz (gw t (vk (bh a) cy)) (dz (gw t (mi cy (o9 (bh a) (DT (bj (bh a) (bj cy cz)))))) (dz (gw t (vk (bh a) cy)) (dz (jm (cT (qr (lz (bh a) cy) (sd (lz (bh a) cy)))) (eh (gw t (mq (i8 (j7 (bj cy (bj (mi (bh a) cy) (bj (wy cy) (bj (rl cy cy) cz)))))) (o9 (bh a) cy)))) ju) (dz (gw t (mi cy (o9 (bh a) cy))) (dz (jm (lz (bh a) cy) (eh (gw t (mq (i8 (j7 (bj cy (bj cy (bj (wy cy) (bj (rl cy cy) cz)))))) (o9 (bh a) cy)))) ju) (dz (gw t (o9 (vk (bh a) cy) cy)) (dz (jm (o6 (bh a) cy) (dz (gw t (mi cy (o9 (bh a) cy))) (eh (gw t (o9 (bh a) cy)))) ju) (dz (jm (lz (bh a) cy) (eh (gw t (mq (i8 (j7 (bj (wy cy) (bj cy (bj (wy (rl cy cy)) (bj (rl cy cy) cz)))))) (o9 (vk (bh a) cy) cy)))) ju) (dz (gw t cy) (dz (jm (cT (vj (DR cy (bh a)) (vn (DR (bh a) (bh a))))) (eh (gw t (y7 (bj (fy (l3 (bh a) cy) a) cz)))) ju) (dz (gw t (mi cy (o9 (vk (bh a) cy) (DT (bj (bh a) (bj cy cz)))))) (dz (jm (lz (bh a) cy) (eh (gw t (mq (i8 (j7 (bj cy (bj (mi (bh a) cy) (bj (wy cy) (bj (rl cy cy) cz)))))) (o9 (vk (bh a) cy) cy)))) ju) (dz (jm (lz (bh a) jk) (eh (ig (ma (bj jk (bj (bh a) (bj (bh a) (bj (bh a) cz))))))) ju) (dz (jm (lz (bh a) jk) (eh (ig (ma (bj jk (bj (bh a) (bj (bh a) (bj (bh a) cz))))))) ju) (dz (jm (lz (bh a) jk) (eh (ig (ma (bj jk (bj (bh a) cz))))) ju) (eh (ig (ma (bj (bh a) cz)))))))))))))))))))))))
 have hc:bO P w K mg base bQ "_law_refusal" 1 (cH K sy):=by exists j8 e9 ["_law_piles", "_law_kept", "_law_deed_here", "_law_word"] λr a t=>dz (gw t (fy cy a)) (dz (jm (lz (bh a) jk) (eh (ig (mq (i8 (j7 (bj jk (bj jk cz)))) (K5 (bj (zD (bh a) cy) cz))))) ju) (dz (jm (lz (bh a) jk) (eh (jm (lz (lY (bj (i8 (x8 a (lv (bh a)) (λ_ _ _ _ _ _ _ a=>mn a))) cz)) cy) (eh (ig jk)) ju)) (eh (jm (cT (qr (rq (fy cy a) cy) (sd (o6 (fy cy a) (mn a))))) (eh (ig jk)) (eh (jm (cT (vj (z9 (bh a) jk) (vn (lz (y7 (bj (fy (l3 (fy cy a) cy) a) cz)) cy)))) (eh (ig jk)) ju))))) (dz (jm (cT (vj (lz (bh a) jk) (vn (cT (qr (rq (fy cy a) cy) (sd (o6 (fy cy a) (y7 (bj (fy (l3 (fy cy a) cy) a) cz))))))))) (eh (ig jk)) ju) (dz (jm (cT (vj (lz (bh a) jk) (vn (cT (qr (rq (fy cy a) cy) (sd (o6 (fy cy a) cy))))))) (eh (ig jk)) ju) (dz (jm (cT (vj (cT (qr (lz (bh a) jk) (sd (lz (bh a) jk)))) (vn (cT (qr (rq (fy cy a) cy) (sd (o6 (fy cy a) cy))))))) (eh (ig jk)) ju) (dz (jm (cT (vj (lz (bh a) jk) (vn (nM (lY (bj (i8 (x8 a (lv (bh a)) (λ_ _ _ _ _ _ _ a=>mn a))) cz)) cy)))) (eh (ig jk)) ju) (dz (jm (nM (bh a) cy) (eh (ig jk)) ju) (eh (ig jk)))))))))
 have cl:bO P w K mg base (dX P w) "_law_ask" 8 (gG K w_ p6):=by exists A8 fa ["_law_house", "_law_deed_here"] λr a t=>dz (jm (lz (fy cy a) jk) (eh (o8 (ig (mS E r (bj (fy cy a) (bj (fy cy a) (bj (fy cy a) cz))) a)) (n_ (A1 E r (bj (fy cy a) (bj (fy cy a) (bj (fy cy a) cz))) a)))) ju) (dz (jm (lz (fy cy a) jk) (eh (o8 (ig (mS F r (bj (fy cy a) (bj (fy cy a) (bj (fy cy a) cz))) a)) (n_ (A1 F r (bj (fy cy a) (bj (fy cy a) (bj (fy cy a) cz))) a)))) ju) (dz (jm (lz (fy cy a) jk) (eh (o8 (ig (mS G r (bj (fy cy a) cz) a)) (n_ (A1 G r (bj (fy cy a) cz) a)))) ju) (dz (jm (lz (fy cy a) jk) (eh (o8 (ig (Fe J r a)) (n_ (Ff J r a)))) ju) (eh (o8 (ig (Fe H r a)) (n_ (Ff H r a)))))))
 have hd:bO P w K mg base (dX P w) "_law_call" 9 (gG K xo OI):=by exists A8 fc ["_law_house", "_law_deed_here", "_law_refused", "e"] λr a t=>dz (gw t (ma (bj jk (bj jk cz)))) (dz (MS hR hS kk r a t (λ_ _ a t=>eh (o8 (ig (A0 cl r (qV (l4 (bj (bh a) cz)) a))) (n_ (Mn cl r (qV (l4 (bj (bh a) cz)) a)))))) (eh (ig (bh a))))
 have he:bO P w K mg base bQ "_law_step" 3 (cH K xl):=by exists j8 fe ["_law_piles", "_law_deed_here", "_law_number", "_law_left", "_law_k", "_law_sack"] λr a t=>dz (KY (La a t (lv (bh a)) (λ_ _ _ _ _ _ _ a=>zJ (bj (bh a) cz)))) (dz (gw t cy) (dz (jm (o6 (mn a) cy) (eh (gw t (l3 (fy cy a) cy))) ju) (dz (jm (lz (fy cy a) jk) (dz (Fu (λ_ _=>bh a) (Fo (λ_ _=>qa (i8 (j7 (bj (ma (bj (bh a) (bj (fy cy a) (bj (fy cy a) cz)))) cz))) (fy (bh a) a))) a) (eh (ig (i8 (j7 (bj (bh a) (bj (bh a) cz))))))) ju) (dz (jm (lz (fy cy a) jk) (dz (gw t (y9 (λ_ _=>mq (fy (bh a) a) (l3 (fy cy a) cy)))) (dz (M5 (λ_ _=>bh a) (λ_ _=>l3 (fy cy a) cy) (ma (bj (fy cy a) (bj (fy cy a) (bj (fy cy a) cz)))) a) (eh (ig (i8 (j7 (bj (bh a) (bj (fy cy a) cz)))))))) ju) (dz (jm (lz (fy cy a) jk) (eh (gw t (l3 (mq (mq (gz cd r (bj (bh a) cz)) cy) cy) cy))) ju) (dz (gw t (y9 (λ_ _=>mq (fy (bh a) a) cy))) (dz (Fu (λ_ _=>bh a) (Fo (λ_ _=>vv (fy (bh a) a) (u4 cy) x9)) a) (eh (ig (i8 (j7 (bj (bh a) (bj (bh a) cz)))))))))))))
 have hf:bO P w K mg base bQ "_law_rate" 1 (cH K wJ):=by exists j8 fg ["_law_piles"] λr a t=>eh (ig (lY (bj (i8 (x8 a (lv (bh a)) (λ_ _ _ _ _ _ _ a=>lY (bj (i8 (x8 a (lv (bh a)) (λ_ _ _ _ _ _ _ a=>fy cy a))) cz)))) cz)))
 have hg:bO P w K mg base bQ "_law_same_answer" 3 (cH K pb):=by exists j8 fh ["_law_found", "_law_due"] λr a t=>dz (jm (r8 (x0 Ac (bh a))) (eh (ig (gz bl r (bj (bh a) (bj (bh a) cz))))) ju) (eh (ig (zF (gz Q r (bj (bh a) cz)) (zE (zD (bh a) (bh a))))))
 have hh:bO P w K mg base bQ "_law_many" 1 (cH K wN):=by exists j8 fi ["_law_header"] λr a t=>eh (ig (mq (i8 (j7 (bj cy (bj cy (bj cy (bj cy (bj cy (bj cy (bj cy (bj cy (bj cy (bj cy (bj cy (bj cy cz)))))))))))))) (o9 (bh a) cy)))
 have hi:bO P w K mg base bQ "_law_rates" 1 (cH K Cd):=by exists j8 fk ["_law_dried", "_law_rates_here", "_law_begun", "_law_dry", "_law_rate_here"] λr a t=>dz (gw t (i8 (j7 cz))) (dz (tZ (lv (bh a)) (l6 t (l6 t (l6 t uw))) (eh (gw t (i8 (qa (bh a) (i8 (Ad (j7 (bj (bh a) cz)) (l3 (bh a) (bh a))))))))) (eh (ig (bh a))))
 have hj:bO P w K mg base (dX P w) "_law_do" 10 (gG K yd OJ):=by exists A8 fl ["_law_house", "_law_state", "_law_deed_here", "_law_piles", "_law_kept", "_law_past", "_law_dried", "_law_due", "_law_found", "_law_ahead", "_law_step_here", "_law_hour"] λr a t=>dz (M7 (l6 t (l6 t (l6 t (l6 t uw)))) a) (dz (gw t (gz hc r (bj (bh a) (bj (Fg (qW a)) (bj (bh a) cz))))) (dz (gw t (A0 hd r (qV (l4 (bj (bh a) cz)) a))) (dz (jm (z9 (bh a) jk) (eh (ig (gz bl r (bj (bh a) (bj (ma (bj jk (bj (bh a) cz))) cz))))) ju) (dz (jm (lz (fy cy a) jk) (dz (gw t (uK (qW a))) (dz (uM (fy cy a) a) (dz (uM (fy cy a) a) (eh (ig (gz bl r (bj (bh a) (bj (uK (qW a)) cz)))))))) ju) (dz (gw t (gz he r (bj (bh a) (bj (bh a) (bj (y9 (λ_ _=>mi cy (y7 (bj (i8 (Ef a (lv (bh a)) (λ_ _ _ _ _ _ _ a=>lz (fy cy a) jk) (λ_ _ _ _ _ _ _ a=>bh a))) cz)))) cz))))) (dz (lc (uL (qW a) (ma (bj (bh a) (bj (bh a) cz))))) (dz (lc (uL (qW a) (bh a))) (dz (uM (fy cy a) a) (dz (jm (lz (fy cy a) jk) (dz (gw t (y7 (bj (gz hi r (bj (bh a) cz)) cz))) (eh (uM (i8 (qa (bh a) (i8 (j7 (bj (ma (bj (bh a) (bj (mi (bh a) (mq (fy cy a) cy)) (bj (gz hf r (bj (bh a) cz)) cz)))) cz))))) a))) ju) (eh (ig (gz hg r (bj (bh a) (bj (fy cy a) cz))))))))))))))
 have cm:bO P w K mg base (dX P w) "_law_new" 1 (uO K wO Ot):=by exists MA bo ["_law_many_here"] λr a t=>eh (Mt (M4 (Fp (λ_ _=>i8 (x8 a (yc (bj (bh a) cz)) (λ_ _ _ _ _ _ _ a=>i8 (j7 cz)))) (Fq (λ_ _=>j7 cz) (Fq (λ_ _=>j7 cz) (Fp (λ_ _=>i8 (j7 cz)) M3))))))
 have cn:bO P w K mg base bQ "_law_cells" 1 (cH K Cu):=by exists j8 bp ["_law_cells_here", "_law_made", "_law_cell"] λr a t=>dz (nj (t.psF (j7 cz))) (dz (om (lv (bh a)) t.pg (dz (lc (t5 (bh a) a)) (eh (jm (lz (o9 (vk (bh a) cy) cy) cy) (dz (lc (t5 (bh a) a)) (eh (lc (t5 (bh a) a)))) ju)))) (eh (ig (bh a))))
 exact MC ["_law_script", "_law_draws_here", "_law_many_here", "_law_house", "_law_state", "_law_cell", "_law_piles", "_law_told_here", "_law_total", "_law_turns_here", "_law_other_here", "_law_found"] λr a t=>dz (gw t (gz g5 r (bj (bh a) (bj cy cz)))) (dz (gw t (gz hh r (bj (fy cy a) cz))) (dz (Fn t (My ba r (bj (bh a) cz))) (dz (Fn t (Mw cm r (bj (bh a) cz))) (dz (om (lv (gz cn r (bj (i8 (vv (bh a) (u4 cy) (u4 (l3 cy (o9 (vk (fy cy a) cy) cy))))) cz))) t.pg (eh (jm (vi (r8 (A0 hj r (qV (qV (l4 (bj (gz hb r (bj (bh a) (bj (Fk a) cz))) cz)) a) a)))) (eh (ig ut)) ju))) (dz (gw t (Fk a)) (dz (gw t (t4 bd r a)) (dz (gw t (t4 be r a)) (dz (jm (cT (qr (vi (r8 (gz ha r (bj (bh a) (bj (bh a) cz))))) (sd (vi (r8 (gz Q r (bj (bh a) cz))))))) (eh (ig ut)) ju) (dz (jm (z9 (bh a) (gz ck r (bj (gz ch r (bj (bh a) (bj (bh a) cz))) cz))) (eh (ig ut)) ju) (dz (gw t (gz g9 r (bj (bh a) (bj (mi (tz (fy cy a) cy) (fy cy a)) cz)))) (dz (gw t (gz ck r (bj (gz ch r (bj (bh a) (bj (bh a) cz))) cz))) (dz (gw t (Mp bf r (bj (i8 (zJ (bj (bh a) cz))) cz) a)) (dz (jm (cT (qr (vi (r8 (x0 Ac (bh a)))) (qr (z9 (mn a) cy) (sd (vi (r8 (gz Q r (bj (fy cy a) cz)))))))) (eh (ig ut)) ju) (eh (ig (zF (Kw (bh a) (bh a)) (zE (zD (fy cy a) (l3 (bh a) (bh a))))))))))))))))))))
end SQ
namespace SQ
open PySem L2 LB
theorem good(V:ik)(hn:V.length<=63):HR [.lst (V.map D.int)]=↑(.bl true):=by
 obtain⟨cs,Y,hd⟩:=Nc V 63 ∅;have hd:rA [.lst (V.map D.int),↥63]=↑(.lst (cs.map D.int)):=hd;have L:bF (cs.map D.int) 0=↑(.int cs[0]):=m9 (k:=0) D.int (by simp[Y]);have d:bF (cs.map D.int) 61=↑(.int cs[61]):=m9 (k:=61) D.int (by simp[Y]);have g:bF (cs.map D.int) 62=↑(.int cs[62]):=m9 (k:=62) D.int (by simp[Y]);obtain⟨n,Z,M⟩:=Pm cs[0];have h:=Pl Z;obtain⟨N,O,P⟩:=Pu cs ↑1 ↑((61:Int)-cs[0] / 12 % 61);obtain⟨ws,R,S⟩:=Pn N ∅;obtain⟨A,eA⟩:∃A:la,A=⇑(.lst (V.map D.int)):=⟨_,rfl⟩;obtain⟨B,eB⟩:∃A:la,A=⇑(.lst (cs.map D.int)):=⟨_,rfl⟩;obtain⟨C,eC⟩:∃A:la,A=⇑↥n:=⟨_,rfl⟩;have T:=O6 (n:=n) Z (F:=az (aB 2) aC) (e:=[A,B,C,none,none,none,none,none,none,none,none,none]) (by rw[eC];rfl);obtain⟨k,p,s,v,c,W,j⟩:=Hw (A:=A) (B:=B) (C:=C) (r:=[none,none,none,none,none,none]) ws [] [] (eF n) none (HI.new Z);have a:=c.at;have l5:=c.l5;have b:=a.few;obtain⟨ts,ok,o⟩:=vP s.1 a.good b;have q:=vT ok o b;have X:(kq ts).length<=14:=by rw[ok.whole.len];exact b
 obtain⟨os,U,t⟩:=NO ok a.good ∅ b (cs[61]*(2147483647:Int)+cs[62]);have aa:os.length<=14:=by rw[U.len];exact b
 have z:=GX (m:=r_) (e:=EL A B C k p s [v,!aG s.1,none,none,none,none,none]) (i:=3) (l:=none) (k:=k) (p:=p++[s]) rfl;have E:=GX (m:=pa) (e:=EL A B C k p s [v,!aG s.1,!.lst (iD (kq ts)),none,none,none,none]) (i:=3) (l:=none) (k:=k) (p:=p++[s]) rfl;rw[O8 q] at z;rw[Pz c ok] at E;have io:=Of ok.whole ∅;have w1:=vM (ji 0 (flat ts));have w2:=vM (ji 0 (tk s.1 os)-ji 0 (flat ts));have G:=Gk ok.whole ∅ ∅;have H:=Gr (tk s.1 (kq ts)) λx u=>a.good x (ok.whole.sk x u);rw[BR ok,show(ts.map (·.2)).flatten=flat ts from rfl] at G H;have t2:=Gk U ∅ ∅;have c2:=Gr (tk s.1 os) λx u=>a.good x (U.sk x u);have J:=PN c ok U;have le:=P1 ok a.good U;obtain⟨Q,hQ,q3,q0⟩:∃Q,D.tup [↥(ji 0 (tk s.1 os)-ji 0 (flat ts)),.lst ((hV (aS (tk s.1 os)) (flat ts) (flat ts).length).map iT),.lst (dZ (aS (tk s.1 os)) ts ts.length++qh (tk s.1 os) ts)]=.tup Q/\(Q.length:Int)=3/\bF Q 0=↑↥(ji 0 (tk s.1 os)-ji 0 (flat ts)):=⟨_,rfl,rfl,kI⟩;rw[hQ] at J;have K:=λI=>GR (m:=sr) (F:=az (aL (jv wv (az (aB 9) aC))) aC) (e:=EL A B C k p s [v,!aG s.1,!.lst (iD (kq ts)),!↥(ji 0 (flat ts)),!.lst (iD os),I,none]) (i:=3) (l:=none) (ps:=hP k (p++[s])) rfl (r:=([.lst (iD os)],EL A B C k p s [v,!aG s.1,!.lst (iD (kq ts)),!↥(ji 0 (flat ts)),!.lst (iD os),I,none])) rfl rfl;simp only[show[((kH,hP k (p++[s])):Ag)]=[hA k (p++[s])] from rfl,J,ai] at K;have fk:∀(f:FE) I,fK kH 3 f (EL A B C k p s [v,!aG s.1,!.lst (iD (kq ts)),!↥(ji 0 (flat ts)),!.lst (iD os),I,none])=f (EL A B C k p s [v,!aG s.1,!.lst (iD (kq ts)),!↥(ji 0 (flat ts)),!.lst (iD os),I,none]):=λf I=>wT (l:=none) (ps:=hP k (p++[s])) rfl;have d0:iF 4 0 (EL A B C k p s [v,none,none,none,none,none,none])=↑(aG s.1,EL A B C k p s [v,none,none,none,none,none,none]):=rfl;have w:c_ (.int cs[0]) ↥12=↑↥(cs[0] / 12):=uA (by decide) (by decide);have y:bM ↥(cs[0] / 12) ↥61=↑↥(cs[0] / 12 % 61):=qQ (by decide);have mf:cN (.int cs[61]) ↥2147483647=↑↥(cs[61]*2147483647):=u9 (qo (by decide));rw[show xC 5 aO=HN from Pv _] at j;refine lm (e':=EL A B C k p s [v,!aG s.1,!.lst (iD (kq ts)),!↥(ji 0 (flat ts)),!.lst (iD os),!↥(ji 0 (tk s.1 os)),!.tup Q]) rfl ?_;rw[show lf 12 [D.lst (V.map D.int)]=[!.lst (V.map D.int),none,none,none,none,none,none,none,none,none,none,none] from rfl];unfold EL at *;rw[l9] at j;subst eA eB eC;unfold HQ;rw[show(AK.ins false "House" kr)=kH from rfl];generalize ji 0 (tk s.1 os)=x2 at *;generalize ji 0 (flat ts)=x1 at *;generalize (tk s.1 os).map sD=TK at *;generalize (flat ts).map sD=FL at *;generalize iD (kq ts)=OL at *;generalize iD os=OS at *;generalize aG s.1=SS at *;generalize hP k (p++[s])=HP at *;generalize cY k p s=SP at *;generalize hP [] [eF n]=HP0 at *;generalize cY [] [] (eF n)=SP0 at *;have g1:decide (x1<=x2)=true:=ke le;simp only[aE,aI,e7,az,aB,fC,aC,ae,af,aw,av,ac,ai,hd,aF,bT,L,d,g,M,qY,T,uP,h,aZ,fS,dO,aH,rj,cj,f8,dh,aO,cP,cV,aL,gT,gK,aD,bA,jw,w,y,mf,O,S,j,d0,z,E,io,w1,G,H,jS,ii,t,t2,c2,fk,K,fM,kU,lZ,beq_self_eq_true,Bool.true_or,j6,q3,q0,w2,aJ,yv,iK,g1,b_]
end SQ
end
open PySem PySem.W PyProof.Rows
open L2 (us1 us2 us3 us4 us5)
theorem PySem.Challenge.cw_rotstacks_k33_whole_least_holds : PySem.Challenge.rw_rotstacks_k33_whole_least.Holds := by
 refine headO ?_
 k_fill
 refine L2.walkD (k:=11) (s:="_law_script") (l:=PySem.Challenge.rw_rotstacks_k33_whole_least) ⟨rfl,by decide,by decide⟩ rfl rfl (λw h Y=>PySem.W.kIn_of Y) ?F;case F =>
  intro w mg fa h KX G hmg;refine' L2.law_mk KX G hmg ?a ?l ?c ?k ?b (SQ.ok_all _ _ _ _ _ _ _ _ _ _ _ _ _ _ _ _ _ _ _ _ _ _ _ _ _ _ _ _ _ _ _ _ _ _ _ _ _ _ _ _ _ _ _ _ _ _ _ _ _ _ _ _ _ _ _ _ _ _ _ _ _ _ _ _ _ _ _ _ _ _ _ _ _ _ _ _ _ _ _ _ _ _ _ _ _ ?hhC _ _ _ _ _ _ _ _ _ _ _ _ _ _ _ _ _ _ _ _ _ _ _ _ _ _ _ _ _ _ _ _ _ _ _ _) SQ.good
  (case a=>k_is)
  (case l=>k_is)
  (case c=>k_is)
  (case k=>k_is)
  (case b=>exact λv=>rfl)
  (case hhC=>unfold L2.Cl;k_is)
  all_goals first | (refine' L2.def_mk (by assumption) (by assumption) ?a ?l ?c ?k ?b;(case a=>k_is);(case l=>k_is);(case c=>k_is);(case k=>k_is);(case b=>first |exact us1 λ_=>rfl |exact us2 λ_ _=>rfl |exact us3 λ_ _ _=>rfl |exact us4 λ_ _ _ _=>rfl |exact us5 λ_ _ _ _ _=>rfl)) | (refine' L2.mef_mk ?a ?l ?c ?k ?i ?b;(case a=>k_is);(case l=>k_is);(case c=>k_is);(case k=>k_is);(case i=>k_is);(case b=>first |exact us1 λ_=>rfl |exact us2 λ_ _=>rfl |exact us3 λ_ _ _=>rfl |exact us4 λ_ _ _ _=>rfl |exact us5 λ_ _ _ _ _=>rfl)) |exact⟨by k_is,by k_is,by k_is,by k_is⟩ |exact PySem.W.mg_none_of KX G (by k_is) |exact ng KX G (by k_is) | (refine' L2.exc_mk KX G ?a ?b (by decide +kernel);(case a=>k_is);(case b=>k_exc)) | (refine' L2.con_mk KX G ?a;(case a=>k_is)) |exact L2.kf_mk KX G (by kernel_rfl) |k_is

