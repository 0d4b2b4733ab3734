import PyProof.Rows.All
import Wide.All
import OpenK.AllK
import Wide.FinOn
import Lean
import PyProof.EqAt
import PyProof.EqKinds
import PyProof.TupleCall
import PyProof.Draws
import PyProof.ZipIter
import PyProof.EnumMake
import PyProof.AttrMissHeap
import KE.KDictOf
import PyProof.Rows.SeqMore2
import PyProof.Rows.SortWalk
import KE.KRevIter
import KE.KTryMore
import PyProof.RulesAs
import PyProof.NsDelKeeps
import KE.KIsAll
import PyProof.ExcArgs
import PySem.Challenge.RW_rotstacks_k41_whole_unknown_ahead_of_emp
set_option Elab.async false
set_option linter.all false
set_option maxRecDepth 100000
set_option compiler.extract_closed false
set_option bootstrap.genMatcherCode false
local macro_rules | `(↑$t)=>`(some $t)
local macro_rules | `(⇑$t)=>`(some (.sh $t))
local macro_rules | `(↥$t)=>`(.int $t)
local macro_rules | `(⋯)=>`(by simp)
local macro_rules | `(∅)=>`(by lia)
theorem F_(h:True:=by rfl):True:=h
local macro_rules | `(‹$t›)=>`(autoParam $t F_._auto_1)
local macro_rules | `(command|@[simp] def $i:declId $s:optDeclSig $v:declVal)=>`(command|@[simp] noncomputable def $i:declId $s:optDeclSig $v:declVal)
local macro_rules | `(command|def $i:declId $s:optDeclSig $v:declVal)=>`(command|noncomputable def $i:declId $s:optDeclSig $v:declVal)
set_option maxHeartbeats 0
open Option renaming bind_some->ac,map_some->ah,map_none->nk
open List renaming getElem?_cons_zero->ae,getElem?_cons_succ->af,length_map->ai,length_cons->ao,set_cons_zero->av,set_cons_succ->aw,length_append->ax,getElem?_append_left->ay,getElem?_eq_getElem->bc,mem_cons_of_mem->bg,mem_of_getElem?->bh,mem_cons_self->bi,length_nil->bq,size_toArray->bz,map_cons->b9,getElem?_map->cb,mem_append_right->cf,getD_eq_getElem?_getD->cj,map_append->cr,getElem?_append_right->cy,lookup_cons->di,getElem?_eq_none->dq,append_nil->du,map_nil->dw,getElem?_set_ne->dy,length_set->d6,length_take->d8,flatten_cons->eh,append_assoc->ek,mem_append_left->em,getElem?_set_self->fb,ext_getElem?->fo,length_drop->fu,length_replicate->fy,sublist_flatten_of_mem->gc,map_map->gg,flatten_append->gh,sum_cons->gn,getElem_mem->ig,drop_eq_getElem_cons->il,take_append_of_le_length->i9,length_singleton->jd,getElem?_set->jg,map_set->jq,replicate_succ->js,map_congr_left->jt,length_flatten->ju,find?_cons->jw,filter_append->jz,take_of_length_le->j8,length_range->j9,takeWhile_append_dropWhile->kh,eq_nil_of_length_eq_zero->ku,sum_append->lg,range_succ->lh,of_mem_zip->li,nil_append->lj,filterMap_cons->lq,getElem?_concat_length->lv,zip_cons_cons->l8,count_append->ml,cons_append->m8,mem_of_mem_take->o6,count_cons_self->o7,getElem_of_mem->p9,map_take->qg,map_drop->qh,map_replicate->qp,drop_length->ug,take_left->yg
open PySem.Heap renaming get?_push_of_some->aq,lt_size->bj,get?_push_size->cx,get?_update_other->df,get?_update_self->gv,size_push->jb
open PySem renaming wpAny_bind->au,wpAny_pure->cz,mem_of_lookup->fm,wpAny_holding->fx,sizeLine_eq->gz,wpAny_mono->ir,wpAny_Call_Name_kw->iu,lookup_relabel_local->i5,codeAny_mono->ji,wpAny_passesOwn->jk,wpAny_field->kj,wpAny_pyIter_list->kr,wpAny_newObj_type->kt,codeAny_call_builtin->l4,wpAny_execs_nil->mh,wpAny_call->m6,wpAny_truthy_bool->nj,wpAny_standAt->nz,wpAny_comprehension_free->n6,wpAny_pyNext_list_item->pv,call_meets->pz,codeAny_builtin->qf,wpAny_pyNext_list_end->qm,wpAny_newFunctionEnv->se,wpAny_pyIter_enum->yd,boot_len->ye
open Nat renaming lt_of_lt_of_le->bn,ne_of_lt->bu,le_refl->cw,le_trans->d7,lt_succ_self->ft,lt_irrefl->gm,lt_succ_of_lt->gx,zero_le->ie,le_of_not_lt->i7,ne_of_gt->j7,le_antisymm->lf,le_of_lt->lu,lt_of_le_of_lt->l7,zero_add->ni,sub_succ_lt_self->oz,le_succ->o5,lt_trans->su,lt_of_succ_le->sw,le_succ_of_le->sx
open Bool renaming false_eq_true->bx,false_ne_true->de,and_eq_true->d9,not_eq_true'->mn,eq_iff_iff->nr,not_true->qi
open PySem.W renaming kia_one->fj,callWith_K->jy,mg_of->mw,cellsFrom_some->nh,plainGet_of->p8,kitx_list->sg
open Int renaming toNat_natCast->iy,mul_le_mul_of_nonneg_right->i8,emod_nonneg->jx,emod_lt_of_pos->j1,eq_ofNat_of_zero_le->j3,zero_add->ke,mul_le_mul_of_nonneg_left->u8,mul_add->u9,add_mul->va,mul_lt_mul_of_pos_right->xi,lt_of_mul_lt_mul_right->yh,le_of_mul_le_mul_right->yi
def aj:=@List.getElem?_eq_some_iff
def am:=@if_pos
def bw:=@if_neg
def b6:=@List.mem_cons
def ci:=@List.nodup_cons
def db:=@Option.bind_eq_some_iff
def dc:=@List.mem_singleton
def dg:=@List.mem_append
def dm:=@if_true
def eg:=@decide_eq_false
def ff:=@if_false
def fq:=@Option.map_eq_some_iff
def f7:=@List.mem_map
def f8:=@List.pairwise_cons
def f9:=@List.all_eq_true
def gl:=@decide_false
def gp:=@decide_true
def gq:=@List.mem_range
def iw:=@decide_eq_true_eq
def i3:=@List.length_pos_iff
def i6:=@eq_false
def ja:=@List.mem_filter
def jl:=@List.pairwise_append
def jp:=@List.mem_flatten
def l3:=@decide_eq_true
def l6:=@beq_iff_eq
def l9:=@Array.getElem?_eq_some_iff
def my:=@Option.isSome_iff_exists
def m7:=@beq_self_eq_true
def qo:=@List.mem_filterMap
def sf:=@eq_true
def sy:=@List.nodup_append
def yf:=@PySem.F.excBase_ValueError
def zu:=@List.getLast?_eq_some_iff
def zw:=@List.getLast?_eq_none_iff
abbrev h6:=List PySem.Str
abbrev h7:=List PySem.Value
abbrev h8:=Option PySem.Value
abbrev ia:=List PySem.Addr
abbrev ic:=List Nat
abbrev ik:=List Int
abbrev i0:=List PySem.Env
abbrev j0:=List PySem.Expr
abbrev ka:=Option PySem.Str
abbrev kb:=Option Int
abbrev kf:=PySem.W.Frag
abbrev kl:=List (PySem.Addr×PySem.Obj)
abbrev kn:=Array PySem.Value
def b8:=@Option.some.inj
def gw:=@PySem.F.plainAttrs_list
def ib:=@PyProof.Rows.callWith_type1
def sj:=@Nat.succ.inj
local macro_rules | `(command|example:=[$n:num,*])=>return Lean.mkNullNode (←n.getElems.mapM λx=>`(command|def $(Lean.mkIdent (.mkSimple s!"tw{x.getNat}")):ident:=0))
namespace PySem.W.Fast
example:=[15322368539271036669,16532565388948089689,13555893974768387133,13184622150755146257,15359066029296091914,12228147544654841872,5983847421345645524,390746492956994619,7803279730508470376,5721976631286687531,14726039395708169042,4820894714139109015,10533599864970498892,17814219459025534607,2568920784801229785,8377269827167821243,2137295140595160997,2903587536570550830,16715844170848953604,2626721090386267002,3314927111501063416,11426443043654593942,10063708139341080091,283888789339259811,14620615850239007432,11695338289939695011,10143343062441790778,2310152115407694317,12264938177008825913,8221379785114272625,1024519886807242658,1030786325826500318,13774891425750927617,5952162250928874895,9891321043359845860,12512955897309937402,3599352512664547791,9407546540072142627,13613329712079379203,1345793373164641390,15831293633207555195,10744851713941782746,6587007149042686835,13414405786833013108,10121377862272130278,3293404830325504663,11262589385775625546,11276991364880623187,12271837024212840064,2455845457240328603,7556450903620949716,4687459795218132417,15974327944981590682,5034716454303145026,5106441590265517144,6575327488482023919,8672185609985027439,4580958863683113643,9861558533797506370,5598528202930427401,14573953567509026023,3823070681319032280,7951472646213758859,210044324623842073,14321320524742165127,7351559169970150468,3940656549514326351,2043501010429613985,6490407223968664275,2991398781726216151,6239945339599895091,10959613180006933657,9278190766790203136,17388220926716677784,2375006567970996351,7319031757845495107,8567998345255177908,10843531812203080730,9587186042336116289,9509332782846596327,15178129359280702113,2850334971432590260,17661425642621637435,13026136331304254567,713925798845973743,11457838680292950747,661426467697074520,10330581090520975216,13062734196947188476,17806559798037380195,13858130960292467990,15803686785222356702,7259224906758229625,16995318327640360008,15552618252400785101,8287477372257394460,5317498474899054006,11868800790607395691,1592825966979909660,3805822162775641158,14196151101740859672,6817870253097453358,2415593063302787039,773837769077973527,8447859378991008473,8936502833500920895,13934532566174715844,1042730745191015830,10879388595287842575,5014031965914161557,8168842266489454260,5947341320043252116,13216005959699228206,14362189368304933659,17945612443392747120,670046974156816329,12947299061229459072,15711869671402154468,14072604438232420825,16010320434224640865,10230110147958061854,8684910251999183264,14845087081150203729,8046396776376872931,511964816478924817,161789380018545185,3653488805216411198,5685583080274577854,2388936564005763016,2824953636588753854,17715355151536627880,7068168932148428858,17581998168518647442,14445418872937896079,8860451591181354368,6332842604250591561,13111393704196124666,3582978304103213920,4872185083630023082,7027161504191823226,10462606234668850954,11914615696464047931,3587737807500910358,13659396781174467188,4699092390904718014,9832110386767757957,15225300591409608309,6304074034095042606,4432724790468297698,10061068533373863766,5051928251995058599,15182589722207170881,10150564033475805507,8334637872655713847,15312604883864658121,17436130570902122954,13945133173953209716,13954008924371047584,7083750166878692056,7079707947466958888,700388651757566146,17676653509532986929,10507715511629606570,2071606587056475718,4895425382642465790,8709134058303481190,10064278401438594924,58109462115370533,12820195605933434369,6837075614334933056,13449174799738682798,5898611799629526299,8226255479208371499,17741644304281435960,8890728187195941351,18167784821210252591,2779806356483853326,17809448620705087777,5539107422793943528,17731801680971310,6050367820228774611,17194835738226993535,11054019970778517585,13121867851967981337,14556100686425596895,4451723133488617876,1595747642052662668,4305065240375502561,1304929338181100159,12576081000109285875,17081379799441678081,13431528681176638448,12978444730273849538,7854691781986271314,953458651356121817,8728325574167029789,1622557476127942605,11344943184745296118,12654239967497380371,7881732657216084209,7772875871448657254,3626200723580813935,379934576109449449,10850915588502522953,17808692385677522963,5583691673590225428,2702439272556505636,16835878378154914824,16445658823089599976,17843410382910287299,11334331014071413509,15951587067062996801,587545333870980003,3779230181079493466,4050732226601590682,9301344737321345939,2325606590763678580,14826912328538242741,15548075588772323972,10188978387758169283,8694474041912759065,15594794917597159775,7180586073690095120,15623725677461450909,13518084608589410599,4268622498170725944,6807043632278035834,2453648838953685886,11194540697262808206,16095411511866042282,10587343237000749088,9805812323308449676,6126246310323976670,1672570849053800847,457999842877823005,5562189002064086367,10276145494591126561,13617027138147984029,9825519608591523203,5123867004574809352,854140536876979112,1723659334660492738,10990553094901904019,7470472829763555575,11369576313543810532,3609704435018269715,12779886806967036166,10887978806130140343,14405675546686497759,2539125382721200481,11114441641902549053,18230195313121980701,17698045181106920911,7658150630077258010,7402376978453233549]
end PySem.W.Fast
open_top headO for PySem.Challenge.rw_rotstacks_k41_whole_unknown_ahead_of_emp
noncomputable section
namespace L2
open PySem PySem.Spec PyProof.Rows
abbrev dS:=Sum Int Str
def lY:dS->Value->Bool
 | .inl k,v=>Value.isInt k v | .inr x,v=>Value.isStrOf x v
def vL(w:World):dS->Int
 | .inl k=>hashInt k | .inr x=>hashStr w x
def xf:∀ {k:dS} {v:Value},lY k v=true->(∃i t,k=Sum.inl i/\v=Value.int i t)\/(∃x t,k=Sum.inr x/\v=Value.str x t)
 | .inl i,v,h=>by
   obtain⟨t,e⟩:=Value.isInt_shape (k:=i) (v:=v) h;exact .inl ⟨i,t,rfl,e⟩
 | .inr x,v,h=>by
   obtain⟨t,e⟩:=Value.isStrOf_shape (x:=x) (v:=v) h;exact .inr ⟨x,t,rfl,e⟩
def Ga(i:Int)(t:Tok):lY (.inl i) (.int i t)=true:=by simp[lY,Value.isInt]
def Gb(x:Str)(t:Tok):lY (.inr x) (.str x t)=true:=by simp[lY,Value.isStrOf]
def Gc(a b:Int):decide ((Sum.inl a:dS)=Sum.inl b)=(a==b):=by
 by_cases e:a=b
 ·subst e;simp
 ·have h:¬(Sum.inl a:dS)=Sum.inl b:=λq=>e (Sum.inl.inj q)
  rw[eg h];exact(beq_eq_false_iff_ne.mpr e).symm
def Ge(a b:Str):decide ((Sum.inr a:dS)=Sum.inr b)=decide (a=b):=by
 by_cases e:a=b
 ·subst e;simp
 ·have h:¬(Sum.inr a:dS)=Sum.inr b:=λq=>e (Sum.inr.inj q)
  rw[eg h,eg e]
def Gf(a:Int)(b:Str):decide ((Sum.inl a:dS)=Sum.inr b)=false:=eg (λq=>nomatch q)
def Gg(a:Str)(b:Int):decide ((Sum.inr a:dS)=Sum.inl b)=false:=eg (λq=>nomatch q)
def qd(prog:Program)(w:World):PySem.KeyKind prog w dS where
 is:=lY
 hash:=vL w
 inj:=λv a b S I=>by
  rcases xf S with⟨i,t,rfl,rfl⟩ | ⟨x,t,rfl,rfl⟩
  ·rcases xf I with⟨j,u,rfl,e⟩ | ⟨y,u,rfl,e⟩
   ·injection e with e1 _;rw[e1]
   ·exact nomatch e
  ·rcases xf I with⟨j,u,rfl,e⟩ | ⟨y,u,rfl,e⟩
   ·exact nomatch e
   ·injection e with e1 _;rw[e1]
 byValue:=λk v h=>by
  rcases xf h with⟨i,t,rfl,rfl⟩ | ⟨x,t,rfl,rfl⟩ <;> rfl
 pyHash:=λD h=>by
  rcases xf D with⟨i,t,rfl,rfl⟩ | ⟨x,t,rfl,rfl⟩
  ·exact wpAny_pyHash_int h
  ·exact wpAny_pyHash_str h
 eqBool:=λU D h=>by
  rcases xf U with⟨i,t,rfl,rfl⟩ | ⟨x,t,rfl,rfl⟩
  ·rcases xf D with⟨j,u,rfl,rfl⟩ | ⟨y,u,rfl,rfl⟩
   ·rw[Gc] at h;exact wpAny_eqBool_int h
   ·rw[Gf] at h;exact SeqAt.EqAt.int_str i t y u _ _ _ _ h
  ·rcases xf D with⟨j,u,rfl,rfl⟩ | ⟨y,u,rfl,rfl⟩
   ·rw[Gg] at h;exact SeqAt.EqAt.str_int x t j u _ _ _ _ h
   ·rw[Ge] at h;exact wpAny_eqBool_str h
 «strs»:=λk x t v h=>by
  rcases xf h with⟨i,u,rfl,e⟩ | ⟨y,u,rfl,e⟩
  ·exact nomatch e
  ·injection e with e1 _
   subst e1;cases v <;> rfl
def Bt(prog:Program)(w:World)(i:Int)(t:Tok):(qd prog w).is (.inl i) (.int i t)=true:=Ga i t
def Gh(prog:Program)(w:World)(x:Str)(t:Tok):(qd prog w).is (.inr x) (.str x t)=true:=Gb x t
inductive V where
 |non |bl (b:Bool) |int (i:Int) |str (x:Str) |byt (b:Array UInt8) |flt (b:UInt64) |ref (a:Addr) |ty (n:String)
 deriving DecidableEq
abbrev kv:=List V
def RelV:V->Value->Prop
 | .non,u=>u=Value.none | .bl b,u=>u=Value.bool b | .int i,u=>∃t,u=Value.int i t
 | .str x,u=>∃t,u=Value.str x t | .byt b,u=>∃t,u=Value.bytes b t | .flt b,u=>∃t,u=Value.float b t | .ref a,u=>u=Value.ref a | .ty n,u=>u=Value.type n
abbrev aN:kv->h7->Prop:=Paired RelV
def aN.length{xs:kv}{us:h7}(r:aN xs us):xs.length=us.length:=Paired.length r
def aN.get:∀ {xs:kv} {us:h7} {i:Nat} {x:V},aN xs us->xs[i]?=↑x->∃u,us[i]?=↑u/\RelV x u
 |_,_,_,_,.nil,e=>by simp at e |_,_,0,_,.cons r _,e=>by simp at e;subst e;exact⟨_,rfl,r⟩ |_,_,i+1,x,.cons _ t,e=>by
   obtain⟨u,h1,h2⟩:=aN.get (i:=i) (x:=x) t (by simpa using e);exact⟨u,by simpa using h1,h2⟩
def aN.set{x:V}{u:Value}(r:RelV x u):∀ {xs:kv} {us:h7} (i:Nat),aN xs us->aN (xs.set i x) (us.set i u)
 |_,_,_,.nil=>.nil |_,_,0,.cons _ t=>.cons r t |_,_,i+1,.cons q t=>.cons q (aN.set r i t)
variable{xs ys:kv}{us:h7}
def aN.append{ws:h7}(h:aN xs us)(s:aN ys ws):aN (xs++ys) (us++ws):=by
 induction h with
 |nil=>exact s |cons r _ q=>exact .cons r q
def aN.take:∀ {xs:kv} {us:h7} (n:Nat),aN xs us->aN (xs.take n) (us.take n)
 |_,_,0,_=>.nil |_,_,_+1,.nil=>.nil |_,_,n+1,.cons r t=>.cons r (aN.take n t)
def aN.drop:∀ {xs:kv} {us:h7} (n:Nat),aN xs us->aN (xs.drop n) (us.drop n)
 |_,_,0,r=>r |_,_,_+1,.nil=>.nil |_,_,n+1,.cons _ t=>aN.drop n t
def eQ:Option V->h8->Prop
 |some v,↑u=>RelV v u |none,none=>True |_,_=>False
def KV{κ:Type}:List (κ×V)->List (κ×Value)->Prop:=Paired λ(p:κ×V) (q:κ×Value)=>p.1=q.1/\RelV p.2 q.2
def kV:dS->V
 | .inl i=>.int i
 | .inr x=>.str x
inductive HO where
 |lst (xs:kv)
 |tup (xs:kv)
 |dK (kvs:List (dS×V)) |dT (kvs:List (List dS×V))
 |set (S:Int->Bool) (n:Nat)
 |ins (C dx:Addr) (fs:List (Str×V))
 |own (x:Addr)
 |xd (fs:List (Str×V))
 |met (f x:Addr)
 |rng (lo hi:Int)
 |frz (o:Obj) (u:HO)
 |tbl (ps:kn)
 |ext (φ:Heap->Prop)
abbrev Hp:=Addr->Option HO
def aX(H:Hp)(a:Addr)(o:HO):Hp:=λb=>if b=a then ↑o else H b
variable{H:Hp}{a:Addr}{o:HO}
def md:aX H a o a=↑o:=by unfold aX;rw[am rfl]
variable{b:Addr}
def i4(h:b≠a):aX H a o b=H b:=by unfold aX;rw[bw h]
def ql(h:H a=↑o)(h':H b=none):a≠b:=by
 intro e;subst e;rw[h] at h';cases h'
section
variable (P:Program) (w:World)
def bQ(H:Hp)(h:Heap)(a:Addr):HO->Prop
 | .lst xs=>xs.length<=sizeLine/\∃(its:h7) (n:Nat),aN xs its/\h.get? a=some { cls:=.type "list",data:=.seq its.toArray n } | .tup xs=>xs.length<=sizeLine/\∃its:h7,aN xs its/\IsTup h a its.toArray | .dK kvs=>kvs.length<=sizeLine/\(a==sysModules)=false/\∃vs,KV kvs vs/\h.DictOf (qd P w) a vs | .dT kvs=>kvs.length<=sizeLine/\(a==sysModules)=false/\∃xs:List (List dS×Addr×Value),
    Paired (λ(p:List dS×V) (q:List dS×Addr×Value)=>p.1=q.1/\H q.2.1=↑(.tup (p.1.map kV))/\RelV p.2 q.2.2) kvs xs /\
    ∃o es D,h.get? a=↑o/\o.ExactDict/\o.data=.dict es D/\es.toList=xs.map (entryOfKey (tupleKind (qd P w)))/\(xs.map (·.1)).Nodup
 | .set S n=>h.SetOf (intKind P w) a S n | .ins C dx fs=>H dx=↑(.own a)/\fs.length<=1000/\dx≠a/\h.get? a=↑(PySem.W.instObj C dx) /\
    ∃mA,h.Ns1 dx mA/\(∀f,eQ (fs.lookup f) (mA f))/\PySem.Within mA (fs.map (·.1))
 | .own _=>∃o,h.get? a=↑o | .xd fs=>∃mA,h.Ns1 a mA/\∀f,eQ (fs.lookup f) (mA f) | .rng lo hi=>∃t u v,h.get? a=some { cls:=.type "range",data:=.fields #[.int lo t,.int hi u,.int 1 v] } | .frz o u=>h.get? a=↑o/\bQ H h a u | .tbl ps=>h.get? a=some { cls:=.none,data:=.fields ps } | .met f x=>h.get? a=↑(PySem.W.methodObj (.ref f) (.ref x)) | .ext φ=>φ h/\(∃o,h.get? a=↑o)/\∀h1 h2:Heap,φ h1->(∀o,h1.get? a=↑o->h2.get? a=↑o)->φ h2
def eY(H:Hp)(h:Heap):Prop:=∀a o,H a=↑o->bQ P w H h a o
end
variable{P:Program}{w:World}{h:Heap}
def bQ.lt(x:bQ P w H h a o):a<h.objs.size:=by
 cases o with
 |lst xs=>obtain⟨_,_,_,_,e⟩:=x;exact bj e |tup xs=>obtain⟨_,_,_,p⟩:=x;exact p.lt |dK kvs=>obtain⟨_,_,_,_,o,_,_,e,_⟩:=x;exact bj e |dT kvs=>obtain⟨_,_,_,_,o,_,_,e,_⟩:=x;exact bj e |set S n=>obtain⟨o,_,_,_,e,_⟩:=x;exact bj e |ins C dx fs=>obtain⟨_,_,_,e,_⟩:=x;exact bj e |own y=>obtain⟨_,e⟩:=x;exact bj e |xd fs=>obtain⟨_,⟨_,_,_,e,_⟩,_⟩:=x;exact bj e |rng lo hi=>obtain⟨_,_,_,e⟩:=x;exact bj e |frz ob u=>obtain⟨e,_⟩:=x;exact bj e |tbl ps=>exact bj (show h.get? a=↑_ from x) |met f y=>exact bj (show h.get? a=↑_ from x) |ext φ=>obtain⟨_,⟨_,e⟩,_⟩:=x;exact bj e
variable{α:Type}
def Paired.mapP{β:Type}{F G:α->β->Prop}{D:List α}{I:List β}(h:Paired F D I)(f:∀a b,F a b->G a b):Paired G D I:=by
 induction h with
 |nil=>exact .nil |cons r _ q=>exact .cons (f _ _ r) q
variable{H':Hp}{h':Heap}
def bQ.stay(x:bQ P w H h a o)(k:∀b u,(b=a\/H b=↑(.own a))->h.get? b=↑u->h'.get? b=↑u)(U:∀b,H b=↑(.own a)->H' b=↑(.own a))(V:∀b xs,H b=↑(.tup xs)->H' b=↑(.tup xs)):bQ P w H' h' a o:=by
 induction o with
 |lst xs=>obtain⟨z,its,n,r,e⟩:=x;exact⟨z,its,n,r,k _ _ (.inl rfl) e⟩ |tup xs=>obtain⟨z,its,r,D,e,c⟩:=x;exact⟨z,its,r,D,k _ _ (.inl rfl) e,c⟩ |dK kvs=>obtain⟨z,y,vs,r,D,es,I,e,c⟩:=x;exact⟨z,y,vs,r,D,es,I,k _ _ (.inl rfl) e,c⟩ |dT kvs =>
   obtain⟨z,y,xs,r,D,es,I,e,c⟩:=x;exact⟨z,y,xs,Paired.mapP r λp q z=>⟨z.1,V _ _ z.2.1,z.2.2⟩,D,es,I,k _ _ (.inl rfl) e,c⟩
 |set S n=>obtain⟨D,es,I,t,e,c⟩:=x;exact⟨D,es,I,t,k _ _ (.inl rfl) e,c⟩ |ins C dx fs =>
   obtain⟨d,z,Y,e,mA,⟨od,es,I,Z,c⟩,r⟩:=x;exact⟨U _ d,z,Y,k _ _ (.inl rfl) e,mA,⟨od,es,I,k _ _ (.inr d) Z,c⟩,r⟩
 |own y=>obtain⟨D,e⟩:=x;exact⟨D,k _ _ (.inl rfl) e⟩ |xd fs=>obtain⟨mA,⟨od,es,I,e,c⟩,r⟩:=x;exact⟨mA,⟨od,es,I,k _ _ (.inl rfl) e,c⟩,r⟩ |rng lo hi=>obtain⟨t,u,v,e⟩:=x;exact⟨t,u,v,k _ _ (.inl rfl) e⟩ |frz D u ih=>obtain⟨e,q⟩:=x;exact⟨k _ _ (.inl rfl) e,ih q⟩ |tbl ps =>
   have e:h.get? a=some { cls:=.none,data:=.fields ps }:=x;show h'.get? a=some { cls:=.none,data:=.fields ps };exact k a _ (.inl rfl) e
 |met f y =>
   have e:h.get? a=↑(PySem.W.methodObj (.ref f) (.ref y)):=x;show h'.get? a=↑(PySem.W.methodObj (.ref f) (.ref y));exact k a _ (.inl rfl) e
 |ext φ=>obtain⟨p,⟨o,e⟩,st⟩:=x;exact⟨st _ _ p λo q=>k _ _ (.inl rfl) q,⟨o,k _ _ (.inl rfl) e⟩,st⟩
def eY.lt(x:eY P w H h)(e:H a=↑o):a<h.objs.size:=(x a o e).lt
def eY.fresh(x:eY P w H h)(e:h.objs.size<=a):H a=none:=by
 cases q:H a with
 |none=>rfl |some u=>exact absurd (bn (x.lt q) e) (gm _)
def eY.kept(x:eY P w H h)(k:∀b u,h.get? b=↑u->h'.get? b=↑u):eY P w H h':=λa o e =>
 (x a o e).stay (λb u _ q=>k b u q) (λ_ q=>q) λ_ _ q=>q
def eY.laid(x:eY P w H h)(k:∀b u,h.get? b=↑u->h'.get? b=↑u)(S:h.objs.size<=a)(new:bQ P w (aX H a o) h' a o):eY P w (aX H a o) h':=λb u e=>by
 have D:=x.fresh S;by_cases I:b=a
 ·subst I;rw[md] at e;cases e;exact new
 ·rw[i4 I] at e
  exact(x b u e).stay (λc v _ q=>k c v q) (λc q=>by rw[i4 (ql q D)];exact q) λc xs q=>by rw[i4 (ql q D)];exact q
def Rd(H:Hp)(a:Addr)(u:HO):Prop:=H a=↑u\/∃o,H a=↑(.frz o u)
variable{u:Value}
def Rd.ok{u:HO}(r:Rd H a u)(x:eY P w H h):bQ P w H h a u:=by
 rcases r with r | ⟨o,r⟩
 ·exact x a u r
 ·obtain⟨_,q⟩:=x a _ r
  exact q
def qV:Option HO->Prop
 |some (.lst _)=>True |some (.dK _)=>True |some (.dT _)=>True |some (.set _ _)=>True |some (.ins _ _ _)=>True |some (.ext _)=>True |_=>False
variable{x e:Addr}{o':HO}
def eY.write(ok:eY P w H h)(U:qV (H x))(Z:e=x\/H e=↑(.own x))(k:∀b u,b≠e->h.get? b=↑u->h'.get? b=↑u)(Y:∃u,h'.get? e=↑u)(new:bQ P w (aX H x o') h' x o'):eY P w (aX H x o') h':=λb u q=>by
 have I:∀c y,H c=↑(.own y)->c≠x:=λc y r z=>by subst z;rw[r] at U;exact U
 have S:∀c xs,H c=↑(.tup xs)->c≠x:=λc xs r z=>by subst z;rw[r] at U;exact U
 by_cases V:b=x
 ·subst V;rw[md] at q;cases q;exact new
 ·rw[i4 V] at q
  by_cases D:b=e
  ·have a:H b=↑(.own x):=by
    rcases Z with z |z
    ·exact absurd (D.trans z) V
    ·rw[D];exact z
   rw[q] at a;cases a;obtain⟨v,d⟩:=Y;exact⟨v,by rw[D];exact d⟩
  ·refine(ok b u q).stay (λc v hc r=>k c v ?_ r) (λc r=>by rw[i4 (I c b r)];exact r) λc xs r=>by rw[i4 (S c xs r)];exact r
   rcases hc with rfl |hc
   ·exact D
   ·rintro rfl
    rcases Z with z |z
    ·exact I c b hc z
    ·rw[hc] at z;cases z;exact V rfl
structure Un (fs ex:ia) (H H':Hp) (h h':Heap):Prop where
 keep:∀b o,h.get? b=↑o->H b=none->b∉fs->b∉ex->h'.get? b=↑o
 slot:∀b o,h.get? b=↑o->H b=none->b∈fs->b∉ex->∃sl,h'.get? b=some { o with slots:=sl }
 free:∀b o,h.get? b=↑o->H b=none->b∉ex->H' b=none
 there:∀b o,h.get? b=↑o->b∉ex->∃o',h'.get? b=↑o'
 tups:∀b xs,H b=↑(.tup xs)->H' b=↑(.tup xs)
 frzs:∀b o u,H b=↑(.frz o u)->H' b=↑(.frz o u)
 tbls:∀b ps,H b=↑(.tbl ps)->∃more,H' b=↑(.tbl (ps++more))
variable{fs ex:ia}{H1:Hp}{h1:Heap}
def Un.any(u:Un fs ex H H1 h h1){D:Obj}(q:h.get? b=↑D)(n:H b=none)(I:b∉ex):∃sl,h1.get? b=some { D with slots:=sl }:=by
 by_cases S:b∈fs
 ·exact u.slot b D q n S I
 ·exact⟨D.slots,u.keep b D q n S I⟩
def Un.kept(k:∀b u,h.get? b=↑u->h'.get? b=↑u):Un fs ex H H h h' :=
 ⟨λb D q _ _ _=>k b D q,λb D q _ _ _=>⟨D.slots,k b D q⟩,λ_ _ _ n _=>n,λb D q _=>⟨D,k b D q⟩,λ_ _ q=>q,λ_ _ _ q=>q,λ_ ps q=>⟨#[],by rw[q];simp⟩⟩
def Un.refl:Un fs ex H H h h:=Un.kept λ_ _ q=>q
def Un.laid(k:∀b u,h.get? b=↑u->h'.get? b=↑u)(I:h.objs.size<=a)(D:H a=none):Un fs ex H (aX H a o) h h' where
 keep:=λb u q _ _ _=>k b u q
 slot:=λb u q _ _ _=>⟨u.slots,k b u q⟩
 free:=λb u q n _=>by rw[i4 (bu (bn (bj q) I))];exact n
 there:=λb u q _=>⟨u,k b u q⟩
 tups:=λb xs q=>by rw[i4 (ql q D)];exact q
 frzs:=λb u xs q=>by rw[i4 (ql q D)];exact q
 tbls:=λb ps q=>⟨#[],by rw[i4 (ql q D),q];simp⟩
def Un.write(I:qV (H x))(Z:e=x\/H e=↑(.own x))(k:∀b u,b≠e->h.get? b=↑u->h'.get? b=↑u)(S:∃u,h'.get? e=↑u):Un fs ex H (aX H x o) h h':=by
 have V:∀b,H b=none->b≠x:=λb n z=>by subst z;rw[n] at I;exact I
 have Y:∀b,H b=none->b≠e:=λb n z=>by
  subst z;rcases Z with r |r
  ·exact V b n r
  ·rw[n] at r;cases r
 have U:∀b u,H b=↑u->¬qV ↑u->b≠x:=λb u q nm z=>by subst z;rw[q] at I;exact nm I
 refine⟨λb u q n _ _=>k b u (Y b n) q,λb u q n _ _=>⟨u.slots,k b u (Y b n) q⟩,λb u q n _=>by rw[i4 (V b n)];exact n,λb u q _=>?_,
  λb xs q=>by rw[i4 (U b _ q λz=>z)];exact q,λb u xs q=>by rw[i4 (U b _ q λz=>z)];exact q,λb ps q=>⟨#[],by rw[i4 (U b _ q λz=>z),q];simp⟩⟩
 by_cases D:b=e
 ·subst D;exact S
 ·exact⟨u,k b u D q⟩
def qW(h:Heap)(H:Hp):ia:=(List.range h.objs.size).filter λa=>(H a).isSome
def gN(h:Heap)(H:Hp):Heap:=PySem.W.hideAll h (qW h H)
def Gi(h:Heap)(H:Hp):(gN h H).objs.size=h.objs.size:=PySem.W.hideAll_size _ _
variable{o:Obj}
def Gj(e:h.get? b=↑o)(n:H b=none):(gN h H).get? b=↑o :=
 PySem.W.hideAll_get _ e λD=>by
  have q:(H b).isSome=true:=(ja.mp D).2;rw[n] at q;simp at q
def Gk(e:(gN h H).get? b=↑o):h.get? b=↑o/\H b=none:=by
 have e':h.get? b=↑o:=PySem.W.of_hideAll (qW h H) e;refine⟨e',?_⟩;cases q:H b with
 |none=>rfl |some x =>
   have D:b∈qW h H:=ja.mpr ⟨gq.mpr (bj e'),by simp[q]⟩;have z:(gN h H).get? b=none:=PySem.W.hideAll_none (qW h H) D;rw[z] at e;cases e
structure Mod (K:kf) (mg:Str->h8) (base:Heap):Prop where
 kin:K.In base
 glob:base.Ns mainGlobals mg
 blt:∃mb,base.Ns builtinsNs mb/\∀x:Str,x ≠ "__name__"->mb x=bootBuiltins x
 nolimit:base.NoLimit
structure Cx where
 prog:Program
 w:World
 K:kf
 mg:Str->h8
 base:Heap
 A:Around
 N:h6
 s₀:Shared
 H₀:Hp
 env:Env
 outer:i0
 stack:i0
 ex:ia
 fn:Str->Bool
 calm:Bool
 pn:kl
 xe:Value->Shared->Prop
def fA(l:i0):ia:=l.filterMap (·.frame)
protected abbrev Cx.fs(X:Cx):ia:=fA X.outer
def kS(sc:Scope)(x:Str):Prop:=sc.names.lookup x=some .local\/sc.names.lookup x=some .cell\/sc.names.lookup x=some .free
def Loc(sc:Scope)(x:Str):Prop:=sc.names.lookup x=some .local\/sc.names.lookup x=some .cell
def Look(env:Env)(h:Heap)(m:Str->h8)(x:Str)(u:Value):Prop :=
 (env.kindOf x=some .local/\m x=↑u)\/((env.kindOf x=some .cell\/env.kindOf x=some .free)/\∃c,env.cells.lookup x=↑c/\h.IsCell c ↑u)
structure Cx.Ok (X:Cx):Prop where
 mod:Mod X.K X.mg X.base
 kind:X.env.scope.kind=.function
 glob:X.env.globals=mainGlobals
 blt:X.env.builtins=builtinsNs
 above:X.s₀.heap.objs.size<=X.env.locals
 inj:∀x y c,X.env.cells.lookup x=↑c->X.env.cells.lookup y=↑c->x=y
 has:∀x,(X.env.kindOf x=some .cell\/X.env.kindOf x=some .free)->∃c,X.env.cells.lookup x=↑c
 cab:∀x c,X.fn x=true->X.env.cells.lookup x=↑c->X.s₀.heap.objs.size<=c
 hd:X.calm=true->X.A.handled=none
 frames:X.A.frames=↑X.stack
 stk:X.stack=X.outer\/(X.stack=X.env::X.outer/\X.env.frame=↑X.env.locals)
 exf:∀b∈X.ex,b≠X.env.locals/\∀x c,X.env.cells.lookup x=↑c->c≠b
 bs:∀b o,X.base.get? b=↑o->X.s₀.heap.get? b=↑o/\X.H₀ b=none
 bsz:X.base.objs.size<=X.s₀.heap.objs.size
 noex:∀b o,X.base.get? b=↑o->b∉X.ex
 exfs:∀b∈X.ex,b∉X.fs
 funs:X.s₀.heap.FunFrames X.base X.outer
 frf:∀b∈X.fs,X.H₀ b=none
structure Inv (X:Cx) (pins:kl) (σ:List (Option V)) (H:Hp) (s:Shared):Prop where
 ok:X.Ok
 os:s.os=X.s₀.os
 bare:AllBare s.gens
 base:Un X.fs X.ex X.H₀ H X.s₀.heap s.heap
 loc:∃m,s.heap.Ns X.env.locals m/\∀(i:Nat) (x:Str) (v:V),X.N[i]?=↑x->σ[i]?=↑↑v->kS X.env.scope x->∃u,RelV v u/\Look X.env s.heap m x u
 cell:∀x c,X.env.cells.lookup x=↑c->∃v,s.heap.IsCell c v
 free:H X.env.locals=none
 freeC:∀x c,X.env.cells.lookup x=↑c->H c=none
 pin:∀p∈X.pn++pins,s.heap.get? p.1=↑p.2/\H p.1=none/\p.1≠X.env.locals/\p.1∉X.fs/\∀v,p.2.data≠.cell v
 hok:eY X.prog X.w H s.heap
 len:σ.length=X.N.length
variable{X:Cx}
def Cx.Ok.nofr(ok:X.Ok)(e:X.base.get? b=↑o):b∉X.fs:=λD=>by
 have:=(ok.funs.mem D).1;rw[e] at this;cases this
variable{pins:kl}{σ:List (Option V)}{s:Shared}
protected def Inv.bs(I:Inv X pins σ H s):∀b o,X.base.get? b=↑o->s.heap.get? b=↑o/\H b=none:=λb o e =>
 ⟨I.base.keep b o (I.ok.bs b o e).1 (I.ok.bs b o e).2 (I.ok.nofr e) (I.ok.noex b o e),I.base.free b o (I.ok.bs b o e).1 (I.ok.bs b o e).2 (I.ok.noex b o e)⟩
def Inv.bk(I:Inv X pins σ H s):∀b o,X.base.get? b=↑o->s.heap.get? b=↑o:=λb o e=>(I.bs b o e).1
def Inv.mod(I:Inv X pins σ H s):Mod X.K X.mg X.base:=I.ok.mod
def Inv.kIn(I:Inv X pins σ H s):X.K.In s.heap:=I.ok.mod.kin.keeps I.bk
def Inv.lt(I:Inv X pins σ H s):X.env.locals<s.heap.objs.size:=let ⟨_,D,_⟩:=I.loc;D.lt
def Inv.sz(I:Inv X pins σ H s):X.s₀.heap.objs.size<=s.heap.objs.size:=d7 I.ok.above (lu I.lt)
def Inv.nofs(I:Inv X pins σ H s)(h:s.heap.objs.size<=a):a∉X.fs:=λD=>by
 obtain⟨_,o,S,_⟩:=I.ok.funs.mem D;exact absurd (bn (bj S) (d7 I.sz h)) (gm _)
def Inv.cne(I:Inv X pins σ H s):∀x c,X.env.cells.lookup x=↑c->c≠X.env.locals:=λx c e z=>by
 obtain⟨v,o,U,hd⟩:=I.cell x c e;obtain⟨m,⟨o',es,V,D,S,_⟩,_⟩:=I.loc;rw[z,D] at U;cases U;rw[S] at hd;cases hd
def Inv.funs(I:Inv X pins σ H s):s.heap.FunFrames X.base X.outer:=by
 have all:∀(l:i0),(∀b∈fA l,b∈X.fs)->X.s₀.heap.FunFrames X.base l->s.heap.FunFrames X.base l:=by
  intro l;induction l with
  |nil=>intro _ _;trivial
  |cons env r ih =>
    intro V Y;obtain⟨Z,⟨L,o,D,a,c,hd⟩,d⟩:=Y;have S:L∈X.fs:=V L (by unfold fA;rw[lq,D];exact bi);obtain⟨sl,e⟩:=I.base.slot L o c (I.ok.frf L S) S λz=>I.ok.exfs L z S;exact⟨Z,⟨L,_,D,a,e,hd⟩,ih (λb U=>V b (by unfold fA;rw[lq,D];exact bg _ U)) d⟩
 exact all X.outer (λ_ U=>U) I.ok.funs
def Inv.stack(I:Inv X pins σ H s):s.heap.FunFrames X.base X.stack:=by
 rcases I.ok.stk with e | ⟨e,hf⟩
 ·rw[e];exact I.funs
 ·rw[e]
  obtain⟨m,D,_⟩:=I.loc;refine .cons (by rw[I.ok.kind];decide) hf D ?_ I.funs;exact Heap.get?_none_of_le (d7 I.ok.bsz I.ok.above)
def Inv.stkSub(I:Inv X pins σ H s):∀b∈fA X.stack,b∈X.env.locals::X.fs:=λb D=>by
 rcases I.ok.stk with e | ⟨e,hf⟩
 ·rw[e] at D;exact bg _ D
 ·rw[e] at D
  unfold fA at D;rw[lq,hf] at D;exact D
def Inv.stkFree(I:Inv X pins σ H s):∀b∈fA X.stack,H b=none:=λb hb=>by
 rcases b6.mp (I.stkSub b hb) with e |hb
 ·rw[e];exact I.free
 ·obtain⟨_,o,D,_⟩:=I.ok.funs.mem hb
  exact I.base.free b o D (I.ok.frf b hb) λz=>I.ok.exfs b z hb
variable{g':Array GenState}{t':Nat}{d':Drawn}{ch:ia}
protected def Inv.step(I:Inv X pins σ H s)(S:∀b∈ch,(b∈X.ex\/X.s₀.heap.objs.size<=b)/\b≠X.env.locals/\(∀x c,X.env.cells.lookup x=↑c->c≠b)/\∀p∈X.pn++pins,p.1≠b)(keep:∀b o,b≠X.env.locals->b∉X.fs->b∉ch->s.heap.get? b=↑o->H b=none->h'.get? b=↑o)(a:∀b o,b≠X.env.locals->b∈X.fs->b∉ch->s.heap.get? b=↑o->H b=none->∃sl,h'.get? b=some { o with slots:=sl })(free:∀b o,b∉ch->s.heap.get? b=↑o->H b=none->H' b=none)(f:∀b o,b∉ch->s.heap.get? b=↑o->∃o',h'.get? b=↑o')(j:∀b xs,H b=↑(.tup xs)->H' b=↑(.tup xs))(t:∀b o u,H b=↑(.frz o u)->H' b=↑(.frz o u))(y:∀b ps,H b=↑(.tbl ps)->∃more,H' b=↑(.tbl (ps++more)))(ns:∀m,s.heap.Ns X.env.locals m->h'.Ns X.env.locals m)(C:eY X.prog X.w H' h')(L:AllBare g') :
  Inv X pins σ H' { s with heap:=h',gens:=g',drawn:=d',toks:=t' }:=by
 have A:∀b o,X.s₀.heap.get? b=↑o->b≠X.env.locals:=λb o e=>bu (bn (bj e) I.ok.above);have Y:∀b o,X.s₀.heap.get? b=↑o->b∉X.ex->b∉ch:=λb o e D g=>by
  rcases(S b g).1 with z |z
  ·exact D z
  ·exact absurd (bn (bj e) z) (gm _)
 have U:∀x c,X.env.cells.lookup x=↑c->∀v,s.heap.IsCell c v->h'.IsCell c v:=λx c e v M=>by
  obtain⟨o,h,hd⟩:=M;have V:c∉ch:=λz=>(S c z).2.2.1 x c e rfl;by_cases F:c∈X.fs
  ·obtain⟨sl,q⟩:=a c o (I.cne x c e) F V h (I.freeC x c e)
   exact⟨_,q,hd⟩
  ·exact⟨o,keep c o (I.cne x c e) F V h (I.freeC x c e),hd⟩
 refine⟨I.ok,I.os,L,⟨λb o e n g D=>?_,λb o e n g D=>?_,λb o e n D=>?_,λb o e D=>?_,λb xs e=>j b xs (I.base.tups b xs e),λb o xs e=>t b o xs (I.base.frzs b o xs e),λb ps e=>?_⟩,?_,λx c e=>?_,?_,λx c e=>?_,λp G=>?_,C,I.len⟩
 ·exact keep b o (A b o e) g (Y b o e D) (I.base.keep b o e n g D) (I.base.free b o e n D)
 ·obtain⟨sl,Z⟩:=I.base.slot b o e n g D
  obtain⟨E,B⟩:=a b _ (A b o e) g (Y b o e D) Z (I.base.free b o e n D);exact⟨E,B⟩
 ·obtain⟨o',Z⟩:=I.base.there b o e D
  exact free b o' (Y b o e D) Z (I.base.free b o e n D)
 ·obtain⟨o',Z⟩:=I.base.there b o e D
  exact f b o' (Y b o e D) Z
 ·obtain⟨N,Z⟩:=I.base.tbls b ps e
  obtain⟨O,B⟩:=y b _ Z;exact⟨N++O,by rw[B,Array.append_assoc]⟩
 ·obtain⟨m,P,Q⟩:=I.loc
  refine⟨m,ns m P,λi x v Z B R=>?_⟩;obtain⟨u,r,l⟩:=Q i x v Z B R;refine⟨u,r,?_⟩;rcases l with l | ⟨k,c,e,z⟩
  ·exact .inl l
  ·exact .inr ⟨k,c,e,U x c e _ z⟩
 ·obtain⟨v,z⟩:=I.cell x c e
  exact⟨v,U x c e v z⟩
 ·obtain⟨m,⟨o,_,_,h,_⟩,_⟩:=I.loc
  exact free _ o (λz=>(S _ z).2.1 rfl) h I.free
 ·obtain⟨v,o,h,hd⟩:=I.cell x c e
  exact free c o (λz=>(S c z).2.2.1 x c e rfl) h (I.freeC x c e)
 ·obtain⟨e,n,J,K,d⟩:=I.pin p G
  have V:p.1∉ch:=λz=>(S p.1 z).2.2.2 p G rfl;exact⟨keep p.1 p.2 J K V e n,free p.1 p.2 V e n,J,K,d⟩
def Inv.un(I:Inv X pins σ H s)(u:Un X.fs [] H H' s.heap h')(S:eY X.prog X.w H' h'):Inv X pins σ H' { s with heap:=h',toks:=t' }:=by
 obtain⟨m,⟨o,es,f,Z,r⟩,_⟩:=id I.loc;obtain⟨sl,a⟩:=u.any Z I.free ⋯;exact I.step (g':=s.gens) (d':=s.drawn) (ch:=[]) (λ_ z=>nomatch z) (λb o _ U _ e n=>u.keep b o e n U ⋯) (λb o _ U _ e n=>u.slot b o e n U ⋯) (λb o _ e n=>u.free b o e n ⋯) (λb o _ e=>u.there b o e ⋯) u.tups u.frzs u.tbls (λg c=>by
  obtain⟨o',V,Y,D,d⟩:=c;rw[Z] at D;cases D;exact⟨_,V,Y,a,d⟩) S I.bare
def Inv.call(I:Inv X pins σ H s)(u:Un (fA X.stack) ch H H' s.heap h')(V:eY X.prog X.w H' h')(f:AllBare g')(S:∀b∈ch,(b∈X.ex\/X.s₀.heap.objs.size<=b)/\b≠X.env.locals/\(∀x c,X.env.cells.lookup x=↑c->c≠b)/\∀p∈X.pn++pins,p.1≠b) :
  Inv X pins σ H' { s with heap:=h',gens:=g',drawn:=d',toks:=t' }:=by
 obtain⟨m,⟨o,es,j,d,r⟩,_⟩:=id I.loc;obtain⟨sl,Y⟩:=u.any d I.free λz=>(S _ z).2.1 rfl;exact I.step (ch:=ch) S (λb o Y g D e n=>u.keep b o e n (λz=>(b6.mp (I.stkSub b z)).elim Y g) D) (λb o _ _ D e n=>u.any e n D) (λb o D e n=>u.free b o e n D) (λb o D e=>u.there b o e D) u.tups u.frzs u.tbls (λk h=>by
  obtain⟨o',Z,a,U,i⟩:=h;rw[d] at U;cases U;exact⟨_,Z,a,Y,i⟩) V f
variable{it:Addr}
def Inv.turned(I:Inv X pins σ H s)(k:∀b o,b≠it->s.heap.get? b=↑o->h'.get? b=↑o)(V:H it=none)(U:it≠X.env.locals)(h1:it∈X.ex\/X.s₀.heap.objs.size<=it)(h2:∀x c,X.env.cells.lookup x=↑c->c≠it)(Y:∀p∈X.pn++pins,p.1≠it):Inv X pins σ H { s with heap:=h',toks:=t' }:=by
 have S:∀b u,H b=↑u->b≠it:=λb u e z=>by rw[z,V] at e;cases e
 refine I.step (g':=s.gens) (d':=s.drawn) (ch:=[it]) (λb Z=>?_) (λb o _ _ D e _=>k b o (λz=>D (by simp[z])) e) (λb o _ _ D e _=>⟨o.slots,k b o (λz=>D (by simp[z])) e⟩) (λ_ _ _ _ n=>n)
  (λb o D e=>⟨o,k b o (λz=>D (by simp[z])) e⟩) (λ_ _ e=>e) (λ_ _ _ e=>e) (λb ps e=>⟨#[],by rw[e];simp⟩) (λm a=>?_) (λb u e=>?_) I.bare
 ·have e:b=it:=by simpa using Z
  subst e;exact⟨h1,U,h2,Y⟩
 ·obtain⟨o,es,d,f,r⟩:=a
  exact⟨o,es,d,k _ o (Ne.symm U) f,r⟩
 ·refine(I.hok b u e).stay (λc v D q=>k c v ?_ q) (λ_ q=>q) λ_ _ q=>q
  rcases D with z |z
  ·rw[z];exact S b u e
  ·exact S c _ z
def Inv.tok(I:Inv X pins σ H s)(t:Nat):Inv X pins σ H { s with toks:=t }:=I.un (h':=s.heap) (t':=t) Un.refl I.hok
def Inv.kept{t':Nat}(I:Inv X pins σ H s)(k:∀b u,s.heap.get? b=↑u->h'.get? b=↑u):Inv X pins σ H { s with heap:=h',toks:=t' }:=I.un (Un.kept k) (I.hok.kept k)
def Inv.laid{a:Addr}{o:HO}{t':Nat}(I:Inv X pins σ H s)(k:∀b u,s.heap.get? b=↑u->h'.get? b=↑u)(D:s.heap.objs.size<=a)(new:bQ X.prog X.w (aX H a o) h' a o) :
  Inv X pins σ (aX H a o) { s with heap:=h',toks:=t' }:=I.un (Un.laid k D (I.hok.fresh D)) (I.hok.laid k D new)
def Inv.write{x e:Addr}{o:HO}{t':Nat}(I:Inv X pins σ H s)(S:qV (H x))(U:e=x\/H e=↑(.own x))(k:∀b u,b≠e->s.heap.get? b=↑u->h'.get? b=↑u)(D:∃u,h'.get? e=↑u)(new:bQ X.prog X.w (aX H x o) h' x o):Inv X pins σ (aX H x o) { s with heap:=h',toks:=t' }:=I.un (Un.write S U k D) (I.hok.write S U k D new)
def Inv.pins_of{D:kl}(I:Inv X pins σ H s)(h:∀p∈D,s.heap.get? p.1=↑p.2/\H p.1=none/\p.1≠X.env.locals/\p.1∉X.fs/\∀v,p.2.data≠.cell v):Inv X D σ H s :=
 ⟨I.ok,I.os,I.bare,I.base,I.loc,I.cell,I.free,I.freeC,λp S=>(dg.mp S).elim (λz=>I.pin p (em _ z)) (h p),I.hok,I.len⟩
variable{x:Str}{N:h6}{i:Nat}{j:Int}
def vM(D:N.Nodup){j:Nat}(a:N[i]?=↑x)(b:N[j]?=↑x):i=j:=by
 obtain⟨h1,I⟩:=aj.mp a;obtain⟨h2,S⟩:=aj.mp b;exact(List.getElem_inj D).mp (I.trans S.symm)
variable{M:Model}{A:Around}{E:Value->Shared->Prop}{v:V}{Q:Unit->Shared->Prop}
def vN(I:Inv X pins σ H s)(hN:X.N.Nodup)(hi:X.N[i]?=↑x)(V:Loc X.env.scope x)(r:RelV v u)(h:∀s',Inv X pins (σ.set i ↑v) H s'->(∃a,Heap.SameBut a s.heap s'.heap/\(a=X.env.locals\/X.env.cells.lookup x=↑a))->Q () s')(hf:X.fn x=true\/X.env.scope.names.lookup x=some .local:=by first |exact .inl rfl |exact .inr rfl |assumption):wpAny M A (storeName X.env x u) Q E s:=by
 obtain⟨m,P,hl⟩:=id I.loc;have B:(X.env.scope.kind==.class || (X.env.scope.kind==.module && X.env.locals != X.env.globals))=false:=by rw[I.ok.kind];rfl
 have f:i<σ.length:=by rw[I.len];exact(aj.mp hi).1
 have cne:=I.cne;have S:∀ {a:Addr} {h':Heap},(∃o,s.heap.get? a=↑o/\H a=none)->Heap.SameBut a s.heap h'->eY X.prog X.w H h':=λ{a h'} ha D b ob e=>by
  obtain⟨_,_,Y⟩:=ha;refine(I.hok b ob e).stay (λc K hc q=>(D.2 c ?_).trans q) (λ_ q=>q) λ_ _ q=>q;rintro rfl;rcases hc with rfl |hc
  ·rw[Y] at e;cases e
  ·rw[Y] at hc;cases hc
 rcases V with hk |hk
 ·refine wpAny_storeName_local hk P (λh' R D=>?_) B
  obtain⟨oL,_,_,T,_⟩:=id P;refine h _ ⟨I.ok,I.os,I.bare,⟨λb o e n g V=>?_,λb o e n g V=>?_,I.base.free,λb o e V=>?_,I.base.tups,I.base.frzs,I.base.tbls⟩,⟨_,R,λj y W U Z e3=>?_⟩,λy c e=>?_,I.free,I.freeC,λp hp=>?_,S ⟨oL,T,I.free⟩ D,by simpa using I.len⟩ ⟨_,D,.inl rfl⟩
  ·exact(D.2 b (bu (bn (bj e) I.ok.above))).trans (I.base.keep b o e n g V)
  ·obtain⟨sl,U⟩:=I.base.slot b o e n g V
   exact⟨sl,(D.2 b (bu (bn (bj e) I.ok.above))).trans U⟩
  ·obtain⟨o',U⟩:=I.base.there b o e V
   exact⟨o',(D.2 b (bu (bn (bj e) I.ok.above))).trans U⟩
  ·by_cases l:j=i
   ·subst l
    rw[hi] at U;cases U;rw[fb f] at Z;cases Z;exact⟨u,r,.inl ⟨hk,by simp⟩⟩
   ·rw[dy (Ne.symm l)] at Z
    obtain⟨u',r',q⟩:=hl j y W U Z e3;refine⟨u',r',?_⟩;rcases q with⟨k,e⟩ | ⟨k,c,e,z⟩
    ·refine .inl ⟨k,?_⟩
     have:y≠x:=λe=>l (vM hN U (e ▸ hi));simp[this,e]
    ·exact .inr ⟨k,c,e,z.sameBut D (cne y c e)⟩
  ·obtain⟨K,z⟩:=I.cell y c e
   exact⟨K,z.sameBut D (cne y c e)⟩
  ·obtain⟨e,n,L,nf,d⟩:=I.pin p hp
   exact⟨(D.2 p.1 L).trans e,n,L,nf,d⟩
 ·have t:X.fn x=true:=by
   rcases hf with z |z
   ·exact z
   ·rw[z] at hk;cases hk
  obtain⟨c,hc⟩:=I.ok.has x (.inl hk);obtain⟨K,z⟩:=I.cell x c hc;refine wpAny_storeName_cell I.ok.kind hk hc z (λh' C D=>?_);obtain⟨oc,F,G⟩:=id z;refine h { s with heap:=h' } ⟨I.ok,I.os,I.bare,⟨λb o e n g V=>?_,λb o e n g V=>?_,I.base.free,λb o e V=>?_,I.base.tups,I.base.frzs,I.base.tbls⟩,⟨m,P.sameBut D (Ne.symm (cne x c hc)),λj y W U Z e3=>?_⟩,λy O e=>?_,I.free,I.freeC,λp hp=>?_,S ⟨oc,F,I.freeC x c hc⟩ D,by simpa using I.len⟩ ⟨c,D,.inr hc⟩
  ·exact(D.2 b (bu (bn (bj e) (I.ok.cab x c t hc)))).trans (I.base.keep b o e n g V)
  ·obtain⟨sl,U⟩:=I.base.slot b o e n g V
   exact⟨sl,(D.2 b (bu (bn (bj e) (I.ok.cab x c t hc)))).trans U⟩
  ·obtain⟨o',U⟩:=I.base.there b o e V
   exact⟨o',(D.2 b (bu (bn (bj e) (I.ok.cab x c t hc)))).trans U⟩
  ·by_cases l:j=i
   ·subst l
    rw[hi] at U;cases U;rw[fb f] at Z;cases Z;exact⟨u,r,.inr ⟨.inl hk,c,hc,C⟩⟩
   ·rw[dy (Ne.symm l)] at Z
    obtain⟨u',r',q⟩:=hl j y W U Z e3;refine⟨u',r',?_⟩;rcases q with q | ⟨k,O,e,z'⟩
    ·exact .inl q
    ·refine .inr ⟨k,O,e,z'.sameBut D ?_⟩
     rintro rfl;exact l (vM hN U (I.ok.inj _ _ _ e hc ▸ hi))
  ·by_cases J:O=c
   ·subst J;exact⟨_,C⟩
   ·obtain⟨w2,z2⟩:=I.cell y O e
    exact⟨w2,z2.sameBut D J⟩
  ·obtain⟨e,n,L,nf,d⟩:=I.pin p hp
   refine⟨(D.2 p.1 ?_).trans e,n,L,nf,d⟩;intro q;rw[q,F] at e;have q':oc=p.2:=b8 e;exact d K (by rw[<-q'];exact G)
def vO(I:Inv X pins σ H s)(D:X.N.Nodup)(hi:X.N[i]?=↑x)(S:Loc X.env.scope x)(r:RelV v u)(h:∀s',Inv X pins (σ.set i ↑v) H s'->Q () s')(U:X.fn x=true\/X.env.scope.names.lookup x=some .local:=by first |exact .inl rfl |exact .inr rfl |assumption):wpAny M A (storeName X.env x u) Q E s :=
 vN I D hi S r (λs' V _=>h s' V) U
variable{s':Shared}
def Inv.call'(I:Inv X pins σ H s)(U:s'.os=s.os)(u:Un (fA X.stack) ch H H' s.heap s'.heap)(D:eY X.prog X.w H' s'.heap)(V:AllBare s'.gens)(S:∀b∈ch,(b∈X.ex\/X.s₀.heap.objs.size<=b)/\b≠X.env.locals/\(∀x c,X.env.cells.lookup x=↑c->c≠b)/\∀p∈X.pn++pins,p.1≠b):Inv X pins σ H' s':=by
 obtain⟨h',g',d',t',o'⟩:=s';have e:o'=s.os:=U;subst e;exact I.call (g':=g') (t':=t') (d':=d') u D V S
abbrev XK:=Value->Option Addr->Hp->Prop
abbrev St:=List (Option V)
abbrev VK:=V->Hp->Prop
abbrev TE:=St->Hp->VK->Prop
abbrev TT:=St->Hp->(Bool->Hp->Prop)->Prop
abbrev TA:=St->Hp->(kv->Hp->Prop)->Prop
structure g_ where
 nx:St->Hp->Prop
 rt:VK
 bk:St->Hp->Prop:=λ_ _=>False
 ct:St->Hp->Prop:=λ_ _=>False
abbrev TS:=g_->St->Hp->Prop
inductive EP (X:Cx) (pins:kl) (σ:St) (Q:VK) (u:Value) (s':Shared):Prop
 |mk (v:V) (H':Hp) (i:Inv X pins σ H' s') (r:RelV v u) (q:Q v H'):EP X pins σ Q u s'
inductive TP (X:Cx) (pins:kl) (σ:St) (Q:Bool->Hp->Prop) (b:Bool) (s':Shared):Prop
 |mk (H':Hp) (i:Inv X pins σ H' s') (q:Q b H'):TP X pins σ Q b s'
inductive AP (X:Cx) (pins:kl) (σ:St) (Q:kv->Hp->Prop) (us:h7) (s':Shared):Prop
 |mk (vs:kv) (H':Hp) (i:Inv X pins σ H' s') (r:aN vs us) (q:Q vs H'):AP X pins σ Q us s'
def SP(X:Cx)(pins:kl)(D:g_)(f:Flow)(s':Shared):Prop :=
 match f with
 | .next=>∃I H',Inv X pins I H' s'/\D.nx I H' | .brk=>∃I H',Inv X pins I H' s'/\D.bk I H' | .cont=>∃I H',Inv X pins I H' s'/\D.ct I H' | .ret u=>∃v I H',Inv X pins I H' s'/\RelV v u/\D.rt v H'
def PE(X:Cx)(e:Expr)(t:TE):Prop :=
 ∀(pins:kl) (s:Shared) (σ:St) (H:Hp) (Q:VK),Inv X pins σ H s->t σ H Q->wpAny (model X.prog X.w) X.A (eval e X.env) (EP X pins σ Q) X.xe s
def PT(X:Cx)(e:Expr)(t:TT):Prop :=
 ∀(pins:kl) (s:Shared) (σ:St) (H:Hp) (Q:Bool->Hp->Prop),Inv X pins σ H s->t σ H Q->wpAny (model X.prog X.w) X.A (isTrue e X.env (eval e X.env)) (TP X pins σ Q) X.xe s
def PW(X:Cx)(e:Expr)(t:TT):Prop :=
 ∀(D:Sem Value) (pins:kl) (s:Shared) (σ:St) (H:Hp) (Q:Bool->Hp->Prop),Inv X pins σ H s->t σ H Q->wpAny (model X.prog X.w) X.A (isTrue e X.env D) (TP X pins σ Q) X.xe s
variable{e:Expr}{t:TE}
def PW.pt{t:TT}(h:PW X e t):PT X e t:=h _
def PA(X:Cx)(es:j0)(t:TA):Prop :=
 ∀(pos:Pos) (pins:kl) (s:Shared) (σ:St) (H:Hp) (Q:kv->Hp->Prop),Inv X pins σ H s->t σ H Q->wpAny (model X.prog X.w) X.A (spliced (backTo pos (starEach es X.env))) (AP X pins σ Q) X.xe s
def PS(X:Cx)(st:Stmt)(t:TS):Prop :=
 ∀(pins:kl) (s:Shared) (σ:St) (H:Hp) (D:g_),Inv X pins σ H s->t D σ H->wpAny (model X.prog X.w) X.A (exec st X.env) (SP X pins D) X.xe s
def gZ(X:Cx)(st:List Stmt)(t:TS):Prop :=
 ∀(pins:kl) (s:Shared) (σ:St) (H:Hp) (D:g_),Inv X pins σ H s->t D σ H->wpAny (model X.prog X.w) X.A (execs st X.env) (SP X pins D) X.xe s
def bK{t:Sem α}{Q D:α->Shared->Prop}(h:wpAny M A t Q E s)(I:∀a s,Q a s->D a s):wpAny M A t D E s:=ir h I λ_ _ x=>x
def jB(i:Nat):TE:=λσ H Q=>∃v,σ[i]?=↑↑v/\Q v H
def tC(v:V):TE:=λ_ H Q=>Q v H
variable{pos:Pos}
def Gm(U:X.N[i]?=↑x)(V:kS X.env.scope x)(hd:(x==("__debug__" : Str))=false:=by decide)(S:(x==("__classdict__" : Str))=false:=by decide):PE X (.Name x pos) (jB i):=by
 intro pins s σ H Q I h;obtain⟨v,e,h⟩:=h;obtain⟨m,Y,Z⟩:=I.loc;obtain⟨u,r,l⟩:=Z i x v U e V;have D:EP X pins σ Q u s:=⟨v,H,I,r,h⟩;rcases l with⟨hk,a⟩ | ⟨hk,c,hc,hcell⟩
 ·exact wpAny_Name (wpAny_loadName_local I.ok.kind hk Y a D) hd
 ·rcases hk with hk |hk
  ·exact wpAny_Name (wpAny_loadName_cell I.ok.kind hk hc hcell D) hd
  ·exact wpAny_Name (wpAny_loadName_free I.ok.kind hk hc hcell D S) hd
def nF{i j pos}:PE X (.Constant ↥i j pos) (tC ↥i):=λ_ _ _ H _ I h=>wpAny_Constant_int ⟨.int i,H,I.tok _,⟨_,rfl⟩,h⟩
def Gn{b j pos}:PE X (.Constant (.bool b) j pos) (tC (.bl b)):=λ_ _ _ H _ I h=>Constant_bool ⟨.bl b,H,I,rfl,h⟩
def Bu{x j pos}:PE X (.Constant (.str x) j pos) (tC (.str x)):=λ_ _ _ H _ I h=>Calls.Constant_str ⟨.str x,H,I.tok _,⟨_,rfl⟩,h⟩
def Gl(X:Cx)(x:Str):Prop:=X.env.kindOf x=some .globalImplicit
variable{σ:St}{Q:Value->Shared->Prop}
def zc(I:Inv X pins σ H s)(D:Gl X x)(S:X.mg x=↑u)(h:Q u s)(hd:(x==("__debug__" : Str))=false:=by decide):wpAny (model X.prog X.w) X.A (eval (.Name x pos) X.env) Q E s :=
 Calls.Name_function_global I.ok.kind D (Calls.loadGlobal_global (by rw[I.ok.glob];exact I.mod.glob.keeps I.bk) S h) hd
def xr(I:Inv X pins σ H s)(D:Gl X x)(S:X.mg x=none)(U:bootBuiltins x=↑u)(h:Q u s)(V:x ≠ "__name__":=by decide)(hd:(x==("__debug__" : Str))=false:=by decide):wpAny (model X.prog X.w) X.A (eval (.Name x pos) X.env) Q E s:=by
 obtain⟨Y,h1,h2⟩:=I.mod.blt;exact Calls.Name_function_global I.ok.kind D (Calls.loadGlobal_builtin (by rw[I.ok.glob];exact I.mod.glob.keeps I.bk) S (by rw[I.ok.blt];exact h1.keeps I.bk) ((h2 x V).trans U) h) hd
def Bv(D:Gl X x)(S:X.mg x=↑u)(r:RelV v u)(hd:(x==("__debug__" : Str))=false:=by decide):PE X (.Name x pos) (tC v) :=
 λ_ _ _ H _ I h=>zc I D S ⟨v,H,I,r,h⟩ hd
def Bw(D:Gl X x)(S:X.mg x=none)(U:bootBuiltins x=↑u)(r:RelV v u)(V:x ≠ "__name__":=by decide)(hd:(x==("__debug__" : Str))=false:=by decide):PE X (.Name x pos) (tC v) :=
 λ_ _ _ H _ I h=>xr I D S U ⟨v,H,I,r,h⟩ V hd
def tB(t:TE):TT:=λσ H Q=>t σ H λx H1=>∃c,x=.bl c/\Q c H1
def Go(h:PE X e t)(S:∀D,isTrue e X.env D=(do let v <-D;standAt e.pos;holding [v] (truthy v)):=by intro _;rfl):PT X e (tB t):=by
 intro pins s σ H Q I U;refine isTrue_plain (bK (h pins s σ H _ I U) λv b V=>?_) (S _);obtain⟨x,H1,Y,Z,a⟩:=V;obtain⟨d,rfl,q⟩:=a;cases Z;exact nj ⟨H1,Y,q⟩
def vP(t u:TT):TT:=λσ H Q=>t σ H λc H1=>if c=true then u σ H1 Q else Q false H1
def Gp(t u:TT):TT:=λσ H Q=>t σ H λc H1=>if c=true then Q true H1 else u σ H1 Q
def vQ(t:TT):TT:=λσ H Q=>t σ H λc H1=>Q (!c) H1
variable{a:Expr}{tA:TT}
def Gq(D:PT X a tA):PW X (.BoolOp .And [a] pos) tA:=by
 intro S pins s σ H Q I h;refine isTrue_and (bK (D pins s σ H Q I h) λc U e=>?_);cases c with
 |true=>exact isTrue_and_nil e |false=>exact e
def Gr(D:PT X a tA):PW X (.BoolOp .Or [a] pos) tA:=by
 intro S pins s σ H Q I h;refine isTrue_or (bK (D pins s σ H Q I h) λc U e=>?_);cases c with
 |false=>exact isTrue_or_nil e |true=>exact e
variable{b:Expr}{tB':TT}{rest:j0}
def Gs(U:PT X a tA)(V:PW X (.BoolOp .And (b::rest) pos) tB'):PW X (.BoolOp .And (a::b::rest) pos) (vP tA tB'):=by
 intro Y pins s σ H Q I h;refine isTrue_and (bK (U pins s σ H _ I h) λc Z d=>?_);obtain⟨H1,D,S⟩:=d;cases c with
 |true=>exact V Y pins Z σ H1 Q D S |false=>exact⟨H1,D,S⟩
def Gu(U:PT X a tA)(V:PW X (.BoolOp .Or (b::rest) pos) tB'):PW X (.BoolOp .Or (a::b::rest) pos) (Gp tA tB'):=by
 intro Y pins s σ H Q I h;refine isTrue_or (bK (U pins s σ H _ I h) λc Z d=>?_);obtain⟨H1,D,S⟩:=d;cases c with
 |true=>exact⟨H1,D,S⟩ |false=>exact V Y pins Z σ H1 Q D S
def Gv(D:PT X a tA):PT X (.UnaryOp .Not a pos) (vQ tA):=by
 intro pins s σ H Q I h;refine isTrue_not (bK (D pins s σ H (λc H1=>Q (!c) H1) I h) λc U h=>?_);obtain⟨H1,S,q⟩:=h;exact⟨H1,S,q⟩
def Gw(ta tb:TE):TE:=λσ H Q=>ta σ H λx H1=>∃c,x=.bl c/\if c=true then tb σ H1 Q else Q (.bl false) H1
def Gx(ta:TE):TE:=λσ H Q=>ta σ H λx H1=>∃c,x=.bl c/\Q (.bl (!c)) H1
def Gy{op}(h:PE X a t):PE X (.BoolOp op [a] pos) t:=λpins s σ H Q I D=>BoolOp_one (h pins s σ H Q I D)
variable{ta tb:TE}
def Gz(U:PE X a ta)(V:PE X (.BoolOp .And (b::rest) pos) tb):PE X (.BoolOp .And (a::b::rest) pos) (Gw ta tb):=by
 intro pins s σ H Q I h;refine BoolOp_and (bK (U pins s σ H _ I h) λv Y Z=>?_);obtain⟨x,H1,S,d,D⟩:=Z;obtain⟨c,rfl,D⟩:=D;cases d;refine nj ?_;cases c with
 |true=>exact V pins Y σ H1 Q S D |false=>exact⟨.bl false,H1,S,rfl,D⟩
def G0(S:PE X a ta):PE X (.UnaryOp .Not a pos) (Gx ta):=by
 intro pins s σ H Q I h;refine UnaryOp_ (bK (S pins s σ H _ I h) λv Z U=>?_);obtain⟨x,H1,V,Y,D⟩:=U;obtain⟨c,rfl,D⟩:=D;cases Y;exact not_of (nj ⟨.bl (!c),H1,V,rfl,D⟩)
def dH(K:kf)(H:Hp)(a:Addr)(xs:kv):Prop :=
 Rd H a (.lst xs) \/
  ∃(o:Obj) (its:kn) (n:Nat),K.lookup a=↑o/\o.cls=.type "list"/\o.dict=none/\o.data=.seq its n/\its.size<=sizeLine/\aN xs its.toList
def eG(K:kf)(H:Hp)(a:Addr)(xs:kv):Prop :=
 Rd H a (.tup xs) \/
  ∃(o:Obj) (its:kn) (n:Nat),K.lookup a=↑o/\o.cls=.type "tuple"/\o.data=.seq its n/\its.size<=sizeLine/\aN xs its.toList
def vR:Value->Option V
 | .none=>some .non | .bool b=>↑(.bl b) | .int i _=>↑↥i
 | .str x _=>↑(.str x) | .bytes b _=>↑(.byt b) | .float b _=>↑(.flt b) | .ref a=>↑(.ref a) | .type n=>↑(.ty n) |_=>none
def RelV.abs{x:V}(r:RelV x u):vR u=↑x:=by
 cases x with
 |non=>cases r;rfl
 |bl _=>cases r;rfl
 |int _=>obtain⟨t,rfl⟩:=r;rfl |str _=>obtain⟨t,rfl⟩:=r;rfl |byt _=>obtain⟨t,rfl⟩:=r;rfl |flt _=>obtain⟨t,rfl⟩:=r;rfl |ref _=>cases r;rfl
 |ty _=>cases r;rfl
def RelV.inj{x y:V}{u:Value}(r:RelV x u)(q:RelV y u):x=y:=b8 (r.abs.symm.trans q.abs)
def aN.inj{xs ys:kv}{us:h7}(h:aN xs us)(g:aN ys us):xs=ys:=by
 induction h generalizing ys with
 |nil=>cases g;rfl
 |cons r t ih=>cases g with |cons p q=>rw[r.inj p,ih q]
variable{a:Addr}{K:kf}
def eG.of(h:H a=↑(.tup xs)):eG K H a xs:=.inl (.inl h)
def Inv.list(I:Inv X pins σ H s)(h:dH X.K H a xs):∃its:h7,aN xs its/\PlainL s.heap a its.toArray/\xs.length<=sizeLine:=by
 rcases h with h | ⟨o,its,n,hk,hc,hd,hs,hz,r⟩
 ·obtain⟨z,its,n,r,e⟩:=h.ok I.hok
  exact⟨its,r,⟨_,n,e,rfl,rfl,rfl⟩,z⟩
 ·refine⟨its.toList,r,⟨o,n,I.kIn a o hk,hc,hd,by simpa using hs⟩,?_⟩
  have e:=r.length;simp only[Array.length_toList] at e;omega
def Inv.tuple(I:Inv X pins σ H s)(h:eG X.K H a xs):∃its:h7,aN xs its/\IsTup s.heap a its.toArray/\xs.length<=sizeLine:=by
 rcases h with h | ⟨o,its,n,hk,hc,hs,hz,r⟩
 ·obtain⟨z,its,r,p⟩:=h.ok I.hok
  exact⟨its,r,p,z⟩
 ·refine⟨its.toList,r,⟨o,I.kIn a o hk,hc,n,by simpa using hs⟩,?_⟩
  have e:=r.length;simp only[Array.length_toList] at e;omega
def Inv.list_inj(I:Inv X pins σ H s)(h:dH X.K H a xs)(h':dH X.K H a ys):xs=ys:=by
 obtain⟨its,r,⟨o,n,e,_,_,d⟩,_⟩:=I.list h;obtain⟨its',D,⟨o',S,e',_,_,d'⟩,_⟩:=I.list h';rw[e] at e';cases e';rw[d] at d';injection d' with d1 _;have:its=its':=by simpa using congrArg Array.toList d1
 subst this;exact r.inj D
def Inv.tuple_inj(I:Inv X pins σ H s)(h:eG X.K H a xs)(h':eG X.K H a ys):xs=ys:=by
 obtain⟨its,r,⟨o,e,_,n,d⟩,_⟩:=I.tuple h;obtain⟨its',D,⟨o',e',_,S,d'⟩,_⟩:=I.tuple h';rw[e] at e';cases e';rw[d] at d';injection d' with d1 _;have:its=its':=by simpa using congrArg Array.toList d1
 subst this;exact r.inj D
abbrev Cx.wish(X:Cx)(E:Value->Shared->Prop):Cx:={ X with xe:=E }
abbrev Cx.nox(X:Cx):Cx:=X.wish λ_ _=>False
def Cx.Ok.wish(ok:X.Ok)(E:Value->Shared->Prop):(X.wish E).Ok :=
 ⟨ok.mod,ok.kind,ok.glob,ok.blt,ok.above,ok.inj,ok.has,ok.cab,ok.hd,ok.frames,ok.stk,ok.exf,ok.bs,ok.bsz,ok.noex,ok.exfs,ok.funs,ok.frf⟩
def Cx.Ok.unwish(ok:(X.wish E).Ok):X.Ok :=
 ⟨ok.mod,ok.kind,ok.glob,ok.blt,ok.above,ok.inj,ok.has,ok.cab,ok.hd,ok.frames,ok.stk,ok.exf,ok.bs,ok.bsz,ok.noex,ok.exfs,ok.funs,ok.frf⟩
def Inv.wish(I:Inv X pins σ H s)(E:Value->Shared->Prop):Inv (X.wish E) pins σ H s:=⟨I.ok.wish E,I.os,I.bare,I.base,I.loc,I.cell,I.free,I.freeC,I.pin,I.hok,I.len⟩
def Inv.unwish(I:Inv (X.wish E) pins σ H s):Inv X pins σ H s:=⟨I.ok.unwish,I.os,I.bare,I.base,I.loc,I.cell,I.free,I.freeC,I.pin,I.hok,I.len⟩
def SP.unwish{D:g_}{f:Flow}{s':Shared}(h:SP (X.wish E) pins D f s'):SP X pins D f s':=by
 cases f with
 |next=>obtain⟨S,H',I,q⟩:=h;exact⟨S,H',I.unwish,q⟩ |brk=>obtain⟨S,H',I,q⟩:=h;exact⟨S,H',I.unwish,q⟩ |cont=>obtain⟨S,H',I,q⟩:=h;exact⟨S,H',I.unwish,q⟩ |ret u=>obtain⟨v,S,H',I,r,q⟩:=h;exact⟨v,S,H',I.unwish,r,q⟩
variable{t:TS}{st:Stmt}
def gZ.nox{st:List Stmt}(h:gZ X.nox st t):gZ X st t:=λpins s σ H D I S =>
 ir (h pins s σ H D (I.wish _) S) (λ_ _ q=>q.unwish) λ_ _ z=>False.elim z
def G1:TS:=λD σ H=>D.nx σ H
def vS(t u:TS):TS:=λD σ H=>t { D with nx:=u D } σ H
def G2:gZ X [] G1:=λ_ _ σ H _ I h=>mh ⟨σ,H,I,h⟩
variable{u:TS}{rest:List Stmt}
def G3(h1:PS X st t)(h2:gZ X rest u):gZ X (st::rest) (vS t u):=by
 intro pins s σ H D I h;refine wpAny_execs_cons (bK (h1 pins s σ H { D with nx:=u D } I h) λf U q=>?_);cases f with
 |next =>
   obtain⟨S,H',V,q⟩:=q;exact h2 pins U S H' D V q
 |ret v=>exact q |brk=>exact q |cont=>exact q
def G4(h1:PS X st t):gZ X [st] t:=by
 intro pins s σ H D I h;refine wpAny_execs_cons (bK (h1 pins s σ H D I h) λf S q=>?_);cases f with
 |next=>exact mh q |ret v=>exact q |brk=>exact q |cont=>exact q
def Inv.quiet(I:Inv X pins σ H s):interactive X.env=false:=by simp[interactive,I.ok.kind]
def G5(te:TE):TS:=λD σ H=>te σ H λ_ H1=>D.nx σ H1
variable{te:TE}
def Bx(S:PE X e te)(U:‹swapsWith e none pos.line X.env=pure false›):PS X (.Expr e pos) (G5 te):=by
 intro pins s σ H D I h;exact wpAny_Expr_any (bK (S pins s σ H _ I h) λv s1 ⟨x,H1,I1,r1,q1⟩=>⟨σ,H1,I1,q1⟩) I.quiet U
def vT(te:TE):TS:=λD σ H=>te σ H D.rt
def nG(S:PE X e te):PS X (.Return ↑e pos) (vT te):=by
 intro pins s σ H D I h;exact wpAny_Return_some (bK (S pins s σ H _ I h) λv s1 ⟨x,H1,I1,r1,q1⟩=>⟨x,σ,H1,I1,r1,q1⟩)
def vU(c:TT)(t u:TS):TS:=λD σ H=>c σ H λb H1=>if b=true then t D σ H1 else u D σ H1
variable{a c:Expr}{tc:TT}
def G6{a b:List Stmt}(Y:PT X c tc)(Z:gZ X a t)(e:gZ X b u):PS X (.If c a b pos) (vU tc t u):=by
 intro pins s σ H D I h;refine wpAny_If (bK (Y pins s σ H _ I h) λd S f=>?_);obtain⟨H1,U,V⟩:=f;cases d with
 |true=>exact Z pins S σ H1 D U V |false=>exact e pins S σ H1 D U V
def G7:TS:=λ_ _ _=>False
def G8:PS X st G7:=λ_ _ _ _ _ _ h=>h.elim
abbrev TG:=V->St->Hp->(St->Hp->Prop)->Prop
abbrev kN:=kv->St->Hp->(St->Hp->Prop)->Prop
def PG(X:Cx)(D:Expr)(t:TG):Prop :=
 ∀(pins:kl) (s:Shared) (σ:St) (H:Hp) (v:V) (u:Value) (Q:St->Hp->Prop),Inv X pins σ H s->RelV v u->t v σ H Q ->
  wpAny (model X.prog X.w) X.A (assign D X.env u) (λ_ s'=>∃I H',Inv X pins I H' s'/\Q I H') X.xe s
def jC(X:Cx)(ts:j0)(t:kN):Prop :=
 ∀(pins:kl) (s:Shared) (σ:St) (H:Hp) (vs:kv) (us:h7) (Q:St->Hp->Prop),Inv X pins σ H s->aN vs us->t vs σ H Q ->
  wpAny (model X.prog X.w) X.A (assignInOrder ((assignEach ts X.env).map (·.2)) us) (λ_ s'=>∃D H',Inv X pins D H' s'/\Q D H') X.xe s
abbrev jD:=V->V->V->Hp->(Hp->Prop)->Prop
def kT(X:Cx)(t:jD):Prop :=
 ∀(pins:kl) (s:Shared) (σ:St) (H:Hp) (o i v:V) (D I u:Value) (Q:Hp->Prop),Inv X pins σ H s->RelV o D->RelV i I->RelV v u->t o i v H Q ->
  wpAny (model X.prog X.w) X.A (setItem D I u) (λ_ s'=>∃H',Inv X pins σ H' s'/\Q H') X.xe s
abbrev lZ:=V->V->Hp->VK->Prop
def qX(X:Cx)(op:Operator)(t:lZ):Prop :=
 ∀(pins:kl) (s:Shared) (σ:St) (H:Hp) (x y:V) (v u:Value) (Q:VK),Inv X pins σ H s->RelV x v->RelV y u->t x y H Q ->
  wpAny (model X.prog X.w) X.A (inplaceOp op v u) (EP X pins σ Q) X.xe s
def n9(i:Nat):TG:=λv σ H Q=>Q (σ.set i ↑v) H
def vV(D:X.N.Nodup)(hi:X.N[i]?=↑x)(S:Loc X.env.scope x)(U:X.fn x=true\/X.env.scope.names.lookup x=some .local:=by first |exact .inl rfl |exact .inr rfl |assumption):PG X (.Name x pos) (n9 i):=by
 intro pins s σ H v u Q I r h;exact wpAny_assign_Name (vO I D hi S r (λs' V=>⟨_,H,V,h⟩) U)
def nH:kN:=λvs σ H Q=>vs=[]/\Q σ H
def By(t:TG)(u:kN):kN:=λvs σ H Q=>∃v r,vs=v::r/\t v σ H λD H'=>u r D H' Q
def G9:jC X [] nH:=by
 intro pins s σ H vs us Q I r h;obtain⟨e,h⟩:=h;subst e;cases r;exact assignInOrder_nil ⟨σ,H,I,h⟩
variable{u:Value}{t:TA}{es:j0}
def GA{t:TG}{u:kN}(h1:PG X e t)(h2:jC X es u)(S:‹(assignEach (e::es) X.env).map (·.2)=assign e X.env::(assignEach es X.env).map (·.2)›):jC X (e::es) (By t u):=by
 intro pins s σ H vs us Q I r h;obtain⟨v,b,U,h⟩:=h;subst U;cases r with
 |cons r rr =>
   rw[S];refine assignInOrder_cons (bK (h1 pins s σ H _ _ _ I r h) λ_ V Y=>?_);obtain⟨D,H1,Z,a⟩:=Y;exact h2 pins V D H1 _ _ Q Z rr a
def nI(K:kf)(n:Nat)(t:kN):TG:=λv σ H Q=>∃a xs,v=.ref a/\eG K H a xs/\xs.length=n/\t xs σ H Q
variable{k n:Nat}
def Bz{t:kN}(V:X.calm=true)(h:jC X es t)(Y:‹(assignEach es X.env).length=n›)(D:‹(assignEach es X.env).findIdx? (·.1)=none›):PG X (.Tuple es k pos) (nI X.K n t):=by
 intro pins s σ H v u Q I r S;obtain⟨a,xs,Z,c,d,S⟩:=S;subst Z;cases r;obtain⟨its,U,f,j⟩:=I.tuple c;refine assign_Tuple_tuple (I.ok.hd V) f (by simp[Y,<-d,U.length]) D λh' g=>?_;have i:Inv X pins σ H { s with heap:=h' }:=I.kept (t':=s.toks) λb o e=>g b o (bu (bj e)) e;exact h pins _ σ H xs _ Q i (by simpa using U) S
def vW(to ti:TE)(t:jD):TG:=λv σ H Q=>to σ H λo H1=>ti σ H1 λi H2=>t o i v H2 λD=>Q σ D
variable{to ti:TE}
def qY{o i:Expr}{t:jD}(V:PE X o to)(hi:PE X i ti)(Y:kT X t)(Z:∀v,assign (.Subscript o i pos) X.env v=(do
   let D <-holding [v] (eval o X.env);let S <-holding [v,D] (eval i X.env)
   standAt pos
   holding [v,D,S] (setItem D S v)
   release [v,D,S] []):=by intro _;rfl):PG X (.Subscript o i pos) (vW to ti t):=by
 intro pins s σ H v u Q I r h;rw[Z];refine au (fx (bK (V pins s σ H _ I h) λD a U=>?_));obtain⟨x,H1,b,c,d⟩:=U;refine au (fx (bK (hi pins a σ H1 _ b d) λS s2 U=>?_));obtain⟨y,H2,e,f,g⟩:=U;refine au (nz (au (fx (bK (Y pins s2 σ H2 x y v D S u _ e c f r g) λ_ m U=>?_))));obtain⟨j,k,l⟩:=U;exact wpAny_release ⟨σ,j,k,l⟩
def fB(te:TE)(g:TG):TS:=λD σ H=>te σ H λx H1=>g x σ H1 D.nx
variable{tg:Expr}{g:TG}
def nJ(S:PE X e te)(U:PG X tg g)(V:‹swapsWithSole [tg] e pos.line X.env=pure false›)(Y:‹swappedStores [tg] e X.env=pure none›)(h1:‹(assignEach [tg] X.env).map (·.2)=[assign tg X.env]›):PS X (.Assign [tg] e pos) (fB te g):=by
 intro pins s σ H D I h;refine wpAny_Assign_stores (bK (S pins s σ H _ I h) λv Z a=>?_) V Y;obtain⟨x,H1,b,c,d⟩:=a;rw[h1];exact bK (U pins Z σ H1 x v _ b c d) λ_ s2 q=>q
variable{pos':Pos}
def qZ(S:X.N.Nodup)(hi:X.N[i]?=↑x)(U:Loc X.env.scope x)(V:PE X e te)(Y:‹swapsWith e ↑(.Name x pos') pos.line X.env=pure false›)(Z:X.fn x=true\/X.env.scope.names.lookup x=some .local:=by first |exact .inl rfl |exact .inr rfl |assumption) :
  PS X (.Assign [.Name x pos'] e pos) (fB te (n9 i)):=by
 intro pins s σ H D I h;refine wpAny_Assign_Name (bK (V pins s σ H _ I h) λv g a=>?_) Y;obtain⟨y,H1,b,c,d⟩:=a;exact vO b S hi U c (λs2 f=>⟨_,H1,f,d⟩) Z
def nK(i:Nat)(te:TE)(ti:lZ):TS:=λD σ H=>∃x,σ[i]?=↑↑x/\te σ H λy H1=>ti x y H1 λz H2=>D.nx (σ.set i ↑z) H2
variable{op:Operator}
def GB{ti:lZ}(Z:X.N.Nodup)(hi:X.N[i]?=↑x)(U:Loc X.env.scope x)(a:PE X e te)(b:qX X op ti)(d:X.fn x=true\/X.env.scope.names.lookup x=some .local:=by first |exact .inl rfl |exact .inr rfl |assumption) :
  PS X (.AugAssign (.Name x pos') op e pos) (nK i te ti):=by
 intro pins s σ H D I h;obtain⟨v,f,h⟩:=h;obtain⟨m,g,j⟩:=I.loc;have V:kS X.env.scope x:=by rcases U with k |k;exact .inl k;exact .inr (.inl k)
 obtain⟨u,r,l⟩:=j i x v hi f V;refine wpAny_AugAssign_Name ?_;have go:wpAny (model X.prog X.w) X.A (eval e X.env) (λw s₂=>wpAny (model X.prog X.w) X.A (inplaceOp op u w) (λr S=>wpAny (model X.prog X.w) X.A (storeName X.env x r) (λ_=>SP X pins D .next) X.xe S) X.xe s₂) X.xe s:=by
  refine bK (a pins s σ H _ I h) λw n Y=>?_;obtain⟨y,H1,o,p,q⟩:=Y;refine bK (b pins n σ H1 v y u w _ o r p q) λz s2 Y=>?_;obtain⟨G,H2,t,B,C⟩:=Y;exact vO t Z hi U B (λJ E=>⟨_,H2,E,C⟩) d
 rcases l with⟨hk,F⟩ | ⟨hk,c,hc,hcell⟩
 ·exact wpAny_loadName_local I.ok.kind hk g F go
 ·rcases hk with hk |hk
  ·exact wpAny_loadName_cell I.ok.kind hk hc hcell go
  ·rcases U with k |k
   ·have:X.env.scope.names.lookup x=some .free:=hk
    rw[k] at this;cases this
   ·have:X.env.scope.names.lookup x=some .free:=hk
    rw[k] at this;cases this
def B0(to ti te:TE)(I:V->V->Hp->VK->Prop)(U:lZ)(S:jD):TS:=λD σ H=>to σ H λo H1=>ti σ H1 λi H2=>I o i H2 λx Y=>te σ Y λy Z=>U x y Z λz a=>S o i z a λb=>D.nx σ b
def nL(X:Cx)(t:V->V->Hp->VK->Prop):Prop :=
 ∀(pins:kl) (s:Shared) (σ:St) (H:Hp) (o i:V) (D I:Value) (Q:VK),Inv X pins σ H s->RelV o D->RelV i I->t o i H Q ->
  wpAny (model X.prog X.w) X.A (getItem D I) (EP X pins σ Q) X.xe s
variable{i:Int}
def B1{o i:Expr}{U:V->V->Hp->VK->Prop}{b:lZ}{Y:jD}{c:Pos}(k:PE X o to)(hi:PE X i ti)(l:nL X U)(m:PE X e te)(n:qX X op b)(p:kT X Y)(q:∀Z a new,augStore i Z a new=(do holding [new,Z,a] (setItem Z a new);release [new,Z,a] [];pure .next):=by intros;rfl):PS X (.AugAssign (.Subscript o i c) op e pos) (B0 to ti te U b Y):=by
 intro pins s σ H D I h;refine wpAny_AugAssign_SubscriptAny (bK (k pins s σ H _ I h) λZ r S=>?_) q;obtain⟨f,H1,t,g,u⟩:=S;refine bK (hi pins r σ H1 _ t u) λa s2 S=>?_;obtain⟨x2,H2,w,j,x⟩:=S;refine bK (l pins s2 σ H2 f x2 Z a _ w g j x) λd y S=>?_;obtain⟨z,A,B,r3,C⟩:=S;refine bK (m pins y σ A _ B C) λv E S=>?_;obtain⟨F,G,J,K,L⟩:=S;refine bK (n pins E σ G z F d v _ J r3 K L) λnew M S=>?_;obtain⟨N,O,P,Q,R⟩:=S;exact bK (p pins M σ O f x2 N Z a new _ P g j Q R) λ_ s6 ⟨H6,I6,q6⟩=>⟨σ,H6,I6,q6⟩
def q_(f:Int->Int->Int):lZ:=λx y H Q=>∃i j,x=.int i/\y=.int j/\Q ↥(f i j) H
def B2:qX X .Add (q_ λi j=>i+j):=by
 intro pins s σ H x y v u Q I D S h;obtain⟨i,j,U,V,q⟩:=h;subst U;subst V;obtain⟨t,rfl⟩:=D;obtain⟨t',rfl⟩:=S;exact iadd_int ⟨.int _,H,I.tok _,⟨_,rfl⟩,q⟩
def GC:qX X .Sub (q_ λi j=>i-j):=by
 intro pins s σ H x y v u Q I D S h;obtain⟨i,j,U,V,q⟩:=h;subst U;subst V;obtain⟨t,rfl⟩:=D;obtain⟨t',rfl⟩:=S;exact isub_int ⟨.int _,H,I.tok _,⟨_,rfl⟩,q⟩
def GD(c:TT)(tb:TS):TS:=λD σ H=>∃W:Nat->St->Hp->Prop,(∃m,W m σ H)/\∀m σ H,W m σ H ->
 c σ H λb H1=>if b=true then ∃N:St->Hp->Prop,(∀I H',N I H'->∃S,S<m/\W S I H')/\tb { D with nx:=N,ct:=N,bk:=D.nx } σ H1 else D.nx σ H1
variable{body:List Stmt}
def GE{tb:TS}(j:PassesOwn (model X.prog X.w) X.A X.env X.xe)(m:PT X c tc)(o:gZ X body tb):PS X (.While c body [] pos) (GD tc tb):=by
 intro pins s σ H D I h;obtain⟨W,⟨p,q⟩,turn⟩:=h;refine wpAny_While (codeAny_whileLoop (λn s'=>∃U H',Inv X pins U H' s'/\W n U H') ?_ p ⟨σ,H,I,q⟩);rintro n r ⟨σ1,H1,I1,w1⟩;refine jk j (bK (m pins r σ1 H1 _ I1 (turn n σ1 H1 w1)) λb s2 t=>?_);obtain⟨H2,k,Y⟩:=t;cases b with
 |true =>
   obtain⟨N,l,Y⟩:=Y;rw[am rfl];refine jk j (bK (o pins s2 σ1 H2 _ k Y) λf u Z=>?_);cases f with
   |next =>
     obtain⟨S,V,a,d⟩:=Z;obtain⟨e,g,i⟩:=l S V d;exact⟨e,g,S,V,a,i⟩
   |cont =>
     obtain⟨S,V,a,d⟩:=Z;obtain⟨e,g,i⟩:=l S V d;exact⟨e,g,S,V,a,i⟩
   |brk=>exact Z |ret v=>exact Z
 |false =>
   rw[bw de];exact mh ⟨σ1,H2,k,Y⟩
structure It where
 go:Nat->Hp->Prop
 yld:Nat->Hp->V->Hp->Prop
 stop:Nat->Hp->Prop
def dX(X:Cx)(pins:kl)(H:Hp)(b:Addr):Prop :=
 H b=none/\b≠X.env.locals/\b∉X.fs/\(b∈X.ex\/X.s₀.heap.objs.size<=b)/\(∀x c,X.env.cells.lookup x=↑c->c≠b)/\∀p∈X.pn++pins,p.1≠b
def Inv.fpOk{b:Addr}(I:Inv X pins σ H s)(D:s.heap.objs.size<=b)(S:H' b=none):dX X pins H' b:=by
 refine⟨S,j7 (bn I.lt D),I.nofs D,.inr (d7 I.sz D),λx c e z=>?_,λp U z=>?_⟩
 ·obtain⟨v,q⟩:=I.cell x c e
  exact absurd (bn q.lt (by rw[z];exact D)) (gm _)
 ·exact absurd (bn (bj (I.pin p U).1) (by rw[z];exact D)) (gm _)
structure ym (Cm:Cx->Prop) (P:Program) (w:World) (K:kf) (tg:Expr) (J:It) (fp:ia) (it:Addr) (tn:Nat->Heap->Prop):Prop where
 mem:it∈fp
 obj:∀i h,tn i h->∀b∈fp,∃o,h.get? b=↑o/\∀v,o.data≠.cell v
 keep:∀i h h',tn i h->(∀b∈fp,∀o,h.get? b=↑o->h'.get? b=↑o)->tn i h'
 item:∀(X:Cx),X.prog=P->X.w=w->X.K=K->Cm X->∀(i:Nat) (pins:kl) (s:Shared) (σ:St) (H:Hp) (E:Value->Shared->Prop),Inv X pins σ H s->(∀b∈fp,dX X pins H b)->tn i s.heap->J.go i H ->
  wpAny (model P w) X.A (pyNext (.ref it)) (λr s1=>∃u,r=↑u /\
   wpAny (model P w) X.A (letOwnedTupleGo tg (.ref it) u) (λ_ s2=>∃x H',Inv X pins σ H' s2/\RelV x u/\J.yld i H x H'/\tn (i+1) s2.heap/\∀b∈fp,H' b=none) E s1) E s
 done:∀(X:Cx),X.prog=P->X.w=w->X.K=K->Cm X->∀(i:Nat) (pins:kl) (s:Shared) (σ:St) (H:Hp) (E:Value->Shared->Prop),Inv X pins σ H s->(∀b∈fp,dX X pins H b)->tn i s.heap->J.stop i H ->
  wpAny (model P w) X.A (pyNext (.ref it)) (λr s1=>r=none/\Inv X pins σ H s1) E s
 self:∀(A:Around) (i:Nat) (s:Shared) (Q:Value->Shared->Prop) (E:Value->Shared->Prop),tn i s.heap->Q (.ref it) s->wpAny (model P w) A (pyIter (.ref it)) Q E s
abbrev iJ:=ym λX=>X.calm=true
abbrev TI:=St->Hp->(It->Hp->Prop)->Prop
def nM(Cm:Cx->Prop)(X:Cx)(pins:kl)(σ:St)(tg:Expr)(R:It->Hp->Prop)(D:Value)(s2:Shared):Prop :=
 ∃(it:Addr) (fp:ia) (I:Nat->Heap->Prop) (J:It) (H':Hp),D=.ref it/\Inv X pins σ H' s2/\ym Cm X.prog X.w X.K tg J fp it I/\I 0 s2.heap/\(∀b∈fp,dX X pins H' b)/\R J H'
def jU(Cm:Cx->Prop)(X:Cx)(tg iter:Expr)(wi:TI):Prop :=
 ∀(pins:kl) (s:Shared) (σ:St) (H:Hp) (R:It->Hp->Prop),Inv X pins σ H s->wi σ H R ->
  wpAny (model X.prog X.w) X.A (eval iter X.env) (λv D=>wpAny (model X.prog X.w) X.A (pyIter v) (nM Cm X pins σ tg R) X.xe D) X.xe s
abbrev PI:=jU λX=>X.calm=true
variable{vs:kv}
def rb{n:String}{vs:kn}{Q:Unit->Shared->Prop}(I:s.heap.get? it=↑o)(S:o.cls=.type n)(hd:o.data=.fields vs)(U:["enumerate", "zip", "dict_itemiterator", "dict_reverseitemiterator", "odict_iterator", "itertools.zip_longest", "itertools.pairwise"].contains n=false)(D:Q () s):wpAny M A (letOwnedTupleGo tg (.ref it) u) Q E s:=by
 unfold letOwnedTupleGo;cases tg <;> first
  |exact cz D
  | (cases u <;> first
      |exact cz D
      | (refine au (wpAny_load I ?_)
         rw[S,hd];show wpAny M A (if (["enumerate", "zip", "dict_itemiterator", "dict_reverseitemiterator", "odict_iterator", "itertools.zip_longest", "itertools.pairwise"].contains n && vs[0]?==↑(rawInt _))=true then _ else _) Q E s;rw[bw (by intro h;rw[U,Bool.false_and] at h;cases h)];exact cz D))
def vX(K:kf)(a:Addr):It :=
 ⟨λi H=>∃xs x,dH K H a xs/\xs[i]?=↑x,λi H x H'=>H'=H/\∀xs,dH K H a xs->xs[i]?=↑x,λi H=>∃xs,dH K H a xs/\xs.length<=i⟩
def vY(K:kf)(a:Addr):It :=
 ⟨λi H=>∃xs x,eG K H a xs/\xs[i]?=↑x,λi H x H'=>H'=H/\∀xs,eG K H a xs->xs[i]?=↑x,λi H=>∃xs,eG K H a xs/\xs.length<=i⟩
def jV(lo:Int)(n:Nat):It:=⟨λi _=>i<n,λi H x H'=>H'=H/\x=.int (lo+i),λi _=>n<=i⟩
def GF(a it:Addr):iJ P w K tg (vX K a) [it] it (λi h=>h.IsListIter it a i) where
 mem:=by simp
 obj:=λi h st b D=>by
  have e:b=it:=by simpa using D
  subst e;obtain⟨o,e,c,d⟩:=st;exact⟨o,e,λv z=>by rw[d] at z;cases z⟩
 keep:=λi h h' st k=>st.at λo e=>k it ⋯ o e
 item:=by
  intro X hP Y Z t i pins s σ H E I U st f;subst hP Y Z;obtain⟨xs,x,V,g⟩:=f;obtain⟨its,j,p,y⟩:=I.list V;obtain⟨u,A,B⟩:=j.get g;obtain⟨l,m,f2,n,q,r⟩:=U it ⋯;refine pv st p.isList (x:=u) (by simpa using A) λh' S C=>?_;have F:Inv X pins σ H { s with heap:=h' }:=I.turned (t':=s.toks) (λb o D e=>(C.2 b D).trans e) l m n q r;obtain⟨o,e,c,d⟩:=id S;exact⟨u,rfl,rb (s:={ s with heap:=h' }) e c d (by decide) ⟨x,H,F,B,⟨rfl,λys G=>by rw[I.list_inj G V];exact g⟩,S,λb D=>(U b D).1⟩⟩
 done:=by
  intro X hP Y Z t i pins s σ H E I U st f;subst hP Y Z;obtain⟨xs,V,g⟩:=f;obtain⟨its,j,p,y⟩:=I.list V;obtain⟨l,m,f2,n,q,r⟩:=U it ⋯;have L:=j.length;exact qm (I.ok.hd t) st p.isList (by simp;omega) λh' J=>⟨rfl,I.turned (t':=s.toks) (λb o D e=>J b o D e) l m n q r⟩
 self:=λ_ _ _ _ _ st h=>wpAny_pyIter_listiter st h
def GG(a it:Addr):iJ P w K tg (vY K a) [it] it (λi h=>h.IsTupleIter it a i) where
 mem:=by simp
 obj:=λi h st b D=>by
  have e:b=it:=by simpa using D
  subst e;obtain⟨o,e,c,d⟩:=st;exact⟨o,e,λv z=>by rw[d] at z;cases z⟩
 keep:=λi h h' st k=>st.at λo e=>k it ⋯ o e
 item:=by
  intro X hP Y Z t i pins s σ H E I U st f;subst hP Y Z;obtain⟨xs,x,V,g⟩:=f;obtain⟨its,j,p,y⟩:=I.tuple V;obtain⟨u,A,B⟩:=j.get g;obtain⟨l,m,f2,n,q,r⟩:=U it ⋯;refine wpAny_pyNext_tuple_item st (show s.heap.IsTuple a its.toArray from p) (x:=u) (by simpa using A) λh' S C=>?_;have F:Inv X pins σ H { s with heap:=h' }:=I.turned (t':=s.toks) (λb o D e=>(C.2 b D).trans e) l m n q r;obtain⟨o,e,c,d⟩:=id S;exact⟨u,rfl,rb (s:={ s with heap:=h' }) e c d (by decide) ⟨x,H,F,B,⟨rfl,λys G=>by rw[I.tuple_inj G V];exact g⟩,S,λb D=>(U b D).1⟩⟩
 done:=by
  intro X hP Y Z t i pins s σ H E I U st f;subst hP Y Z;obtain⟨xs,V,g⟩:=f;obtain⟨its,j,p,y⟩:=I.tuple V;obtain⟨l,m,f2,n,q,r⟩:=U it ⋯;have L:=j.length;exact wpAny_pyNext_tuple_end (I.ok.hd t) st (show s.heap.IsTuple a its.toArray from p) (by simp;omega) λh' J=>⟨rfl,I.turned (t':=s.toks) (λb o D e=>J b o D e) l m n q r⟩
 self:=λ_ _ _ _ _ st h=>wpAny_pyIter_tupleiter st h
def nN(it:Addr)(lo:Int)(n:Nat):iJ P w K tg (jV lo n) [it] it (λi h=>IsRangeIter h it (lo+(i:Nat)*1) ((n:Int)-(i:Nat)) 1) where
 mem:=by simp
 obj:=λi h st b D=>by
  have e:b=it:=by simpa using D
  subst e;exact⟨_,st,λv z=>by
   have l:Data.fields _=Data.cell v:=z;cases l⟩
 keep:=λi h h' st k=>k it ⋯ _ st
 item:=by
  intro X hP V Y Z i pins s σ H E I U st a;subst hP V Y;obtain⟨c,d,f2,f,g,j⟩:=U it ⋯;have W:=Walks.range (prog:=X.prog) (w:=X.w) (I.ok.hd Z) it lo 1 n;refine W.item i s _ _ a st λv h' tk m S kk=>?_;obtain⟨t,rfl⟩:=m;have p:Inv X pins σ H { s with heap:=h',toks:=tk }:=I.turned (λb o D e=>kk b o (by simpa using D) e) c d f g j;refine⟨_,rfl,rb (s:={ s with heap:=h',toks:=tk }) (n:="range_iterator") S rfl rfl (by decide) ⟨.int (lo+i),H,p,⟨t,?_⟩,⟨rfl,rfl⟩,S,λb D=>(U b D).1⟩⟩;rw[Int.mul_one]
 done:=by
  intro X hP V Y Z i pins s σ H E I U st a;subst hP V Y;obtain⟨c,d,f2,f,g,j⟩:=U it ⋯;exact wpAny_pyNext_range_end (I.ok.hd Z) st (by have:n<=i:=a;omega) λh' q=>⟨rfl,I.turned (t':=s.toks) (λb o D e=>q b o D e) c d f g j⟩
 self:=λ_ _ _ _ _ st h=>wpAny_pyIter_rangeiter st h
def GH(K:kf)(tl:TE):TI:=λσ H R=>tl σ H λx H1=>∃a,x=.ref a/\(∃xs,dH K H1 a xs)/\R (vX K a) H1
def vZ(K:kf)(tl:TE):TI:=λσ H R=>tl σ H λx H1=>∃a,x=.ref a/\(∃xs,eG K H1 a xs)/\R (vY K a) H1
variable{l:Expr}{tl:TE}
def v_(U:PE X l tl):PI X tg l (GH X.K tl):=by
 intro pins s σ H R I h;refine bK (U pins s σ H _ I h) λv D V=>?_;obtain⟨x,H1,S,Y,Z⟩:=V;obtain⟨a,e,⟨xs,c⟩,q⟩:=Z;subst e;cases Y;obtain⟨its,f,p,g⟩:=S.list c;refine kr p.isList ?_;refine⟨D.heap.objs.size,[D.heap.objs.size],_,_,H1,rfl,S.kept (t':=D.toks) λb o e=>aq _ e,GF a _,⟨_,cx _ rfl,rfl,rfl⟩,λb d=>?_,q⟩;have e:b=D.heap.objs.size:=by simpa using d
 subst e;exact S.fpOk (cw _) (S.hok.fresh (cw _))
def GI(U:PE X l tl):PI X tg l (vZ X.K tl):=by
 intro pins s σ H R I h;refine bK (U pins s σ H _ I h) λv D V=>?_;obtain⟨x,H1,S,Y,Z⟩:=V;obtain⟨a,e,⟨xs,c⟩,q⟩:=Z;subst e;cases Y;obtain⟨its,f,p,g⟩:=S.tuple c;refine wpAny_pyIter_tuple (show D.heap.IsTuple a its.toArray from p) ?_;refine⟨D.heap.objs.size,[D.heap.objs.size],_,_,H1,rfl,S.kept (t':=D.toks) λb o e=>aq _ e,GG a _,⟨_,cx _ rfl,rfl,rfl⟩,λb d=>?_,q⟩;have e:b=D.heap.objs.size:=by simpa using d
 subst e;exact S.fpOk (cw _) (S.hok.fresh (cw _))
variable{v:Value}{Cm:Cx->Prop}
def B3(hT:∀(it:Addr) (lo:Int) (n:Nat),ym Cm X.prog X.w X.K tg (jV lo n) [it] it (λi h=>IsRangeIter h it (lo+(i:Nat)*1) ((n:Int)-(i:Nat)) 1)){R:It->Hp->Prop}{lo hi:Int}{t u v:Tok}{tk:Nat}(I:Inv X pins σ H s)(h1:-(2 ^ 62)<=lo)(h2:lo<2 ^ 62)(S:-(2 ^ 62)<=hi)(U:hi<2 ^ 62)(q:R (jV lo (hi-lo).toNat) H):wpAny (model X.prog X.w) X.A (pyIter (.ref s.heap.objs.size)) (nM Cm X pins σ tg R) E { s with heap:=s.heap.push { cls:=.type "range",data:=.fields #[.int lo t,.int hi u,.int 1 v] },toks:=tk }:=by
 refine wpAny_pyIter_range (IsRange.new ..) (small_one h1 h2 S U) ?_;have D:Inv X pins σ H { s with heap:=s.heap.push { cls:=.type "range",data:=.fields #[.int lo t,.int hi u,.int 1 v] },toks:=tk }:=I.kept λb o e=>aq _ e;refine⟨(s.heap.push { cls:=.type "range",data:=.fields #[.int lo t,.int hi u,.int 1 v] }).objs.size,[(s.heap.push { cls:=.type "range",data:=.fields #[.int lo t,.int hi u,.int 1 v] }).objs.size],_,_,H,rfl,
  D.kept (t':=tk) λb o e=>aq _ e,hT _ lo (hi-lo).toNat,?_,λb V=>?_,q⟩
 ·have Y:lo+((0:Nat):Int)*1=lo:=by simp
  have Z:(((hi-lo).toNat:Nat):Int)-((0:Nat):Int)=Builtin.Range.rangeSize lo hi 1:=by rw[rangeSize_one];split <;> omega
  show IsRangeIter _ _ (lo+((0:Nat):Int)*1) ((((hi-lo).toNat:Nat):Int)-((0:Nat):Int)) 1;rw[Y,Z];exact cx _ rfl
 ·have e:b=(s.heap.push { cls:=.type "range",data:=.fields #[.int lo t,.int hi u,.int 1 v] }).objs.size:=by simpa using V
  subst e;exact D.fpOk (cw _) (D.hok.fresh (cw _))
def GJ(ta:TA):TI:=λσ H R=>ta σ H λvs H1=>∃j:Int,vs=[↥j]/\-(2 ^ 62)<=j/\j<2 ^ 62/\R (jV 0 j.toNat) H1
def GK(ta:TA):TI:=λσ H R=>ta σ H λvs H1=>∃i j:Int,vs=[↥i,↥j]/\(-(2 ^ 62)<=i/\i<2 ^ 62/\-(2 ^ 62)<=j/\j<2 ^ 62)/\R (jV i (j-i).toNat) H1
variable{p:Pos}
def GL(hT:∀(it:Addr) (lo:Int) (n:Nat),ym Cm X.prog X.w X.K tg (jV lo n) [it] it (λi h=>IsRangeIter h it (lo+(i:Nat)*1) ((n:Int)-(i:Nat)) 1)){ta:TA}(S:Gl X "range")(U:X.mg "range" = none)(V:PA X [a] ta)(Y:‹starEach [a] X.env=[(false,eval a X.env)]›):jU Cm X tg (.Call (.Name "range" p) [a] [] pos) (GJ ta):=by
 intro pins s σ H R I h;refine Call_ (xr I S U boot_range (ib (bK (V pos pins s σ H _ I h) λus f Z=>?_) Y rfl));obtain⟨vs,H1,b,c,D⟩:=Z;obtain⟨j,e,D,d,q⟩:=D;subst e;cases c with
 |cons r rr =>
   cases rr;obtain⟨t,rfl⟩:=r;exact call_range_1 (B3 hT b (by omega) (by omega) D d (by simpa using q))
def GM{ta:TA}(U:Gl X "range")(V:X.mg "range" = none)(Y:PA X [a,b] ta)(Z:‹starEach [a,b] X.env=[(false,eval a X.env),(false,eval b X.env)]›)(D:‹starEach [b] X.env=[(false,eval b X.env)]›) :
  PI X tg (.Call (.Name "range" p) [a,b] [] pos) (GK ta):=by
 intro pins s σ H R I h;refine Call_ (xr I U V boot_range (ib (bK (Y pos pins s σ H _ I h) λus m c=>?_) (by rw[Z,D]) (by rw[D];rfl)));obtain⟨vs,H1,d,f,S⟩:=c;obtain⟨i,j,e,⟨S,g,k,l⟩,q⟩:=S;subst e;cases f with
 |cons r rr =>
   cases rr with
   |cons r' rr =>
     cases rr;obtain⟨t,rfl⟩:=r;obtain⟨t',rfl⟩:=r';exact call_range_2 (B3 (λit lo n=>nN it lo n) d S g k l q)
def wh(wi:TI)(g:TG)(tb:TS):TS:=λD σ H=>wi σ H λJ H1=>∃W:Nat->Nat->St->Hp->Prop,(∃m,W 0 m σ H1)/\∀i m σ H,W i m σ H ->
 (J.stop i H/\D.nx σ H)\/(J.go i H/\∃N:St->Hp->Prop,(∀I H',N I H'->∃U,U<m/\W (i+1) U I H')/\∀x H',J.yld i H x H'->g x σ H' λS H2=>tb { D with nx:=N,ct:=N,bk:=D.nx } S H2)
def nO(fp:ia)(h:Heap):kl:=fp.filterMap λb=>(h.get? b).map λo=>(b,o)
variable{fp:ia}
def rd{b:Addr}(D:b∈fp)(e:h.get? b=↑o):(b,o)∈nO fp h:=qo.mpr ⟨b,D,by rw[e];rfl⟩
def GN{p:Addr×Obj}(D:p∈nO fp h):p.1∈fp/\h.get? p.1=↑p.2:=by
 obtain⟨b,I,e⟩:=qo.mp D;cases q:h.get? b with
 |none=>rw[q] at e;cases e
 |some o =>
   rw[q] at e;have e':(b,o)=p:=b8 e;subst e';exact⟨I,q⟩
def Inv.pinned(I:Inv X pins σ H s)(S:∀b∈fp,dX X pins H b)(U:∀b∈fp,∃o,s.heap.get? b=↑o/\∀v,o.data≠.cell v):Inv X (pins++nO fp s.heap) σ H s :=
 I.pins_of λp V=>(dg.mp V).elim (λz=>I.pin p (cf _ z)) λz=>by
  obtain⟨D,e⟩:=GN z;obtain⟨Y,Z,f2,_⟩:=S p.1 D;obtain⟨o,e',d⟩:=U p.1 D;rw[e] at e';cases e';exact⟨e,Y,Z,f2,d⟩
variable{pl:Sem Bool}
def Inv.unpinned{pl:kl}(I:Inv X (pins++pl) σ H s):Inv X pins σ H s:=I.pins_of λp D=>I.pin p (cf _ (em _ D))
def B4{iter:Expr}{wi:TI}{tb:TS}(l:PassesOwn (model X.prog X.w) X.A X.env X.xe)(F:X.calm=true)(hi:PI X tg iter wi)(O:PG X tg g)(U:gZ X body tb)(P:∀x,foldedSetIterable iter X.env x=pure x:=by intro _;rfl):PS X (.For tg iter body [] pos) (wh wi g tb):=by
 intro pins s σ H D I h;refine wpAny_For (bK (hi pins s σ H _ I h) λv s1 h1=>bK h1 λQ s2 h2=>?_) P;obtain⟨it,fp,G,J,H2,e,R,T,t,f2,W,⟨m0,w0⟩,turn⟩:=h2;subst e;have V:∀ {H':Hp},(∀b∈fp,H' b=none)->∀b∈fp,dX X pins H' b:=λhn b U=>⟨hn b U,(f2 b U).2⟩;refine codeAny_forLoop_any (λn s'=>∃i Y H',Inv X pins Y H' s'/\G i s'.heap/\(∀b∈fp,H' b=none)/\W i n Y H') ?_ m0 ⟨0,σ,H2,R,t,λb U=>(f2 b U).1,w0⟩;rintro n K ⟨i,σ3,H3,I3,st3,fr3,w3⟩;rcases turn i n σ3 H3 w3 with⟨p,qn⟩ | ⟨go,N,hN,step⟩
 ·refine jk l (bK (T.done X rfl rfl rfl F i pins K σ3 H3 X.xe I3 (V fr3) st3 p) λr s4 j=>?_)
  obtain⟨y,I4⟩:=j;subst y;exact mh ⟨σ3,H3,I4,qn⟩
 ·refine jk l (bK (T.item X rfl rfl rfl F i pins K σ3 H3 X.xe I3 (V fr3) st3 go) λr s4 j=>?_)
  obtain⟨u,y,h4⟩:=j;subst y;refine jk l (bK h4 λ_ L j=>?_);obtain⟨x,M,I5,r5,y5,k,z⟩:=j;have B:=I5.pinned (V z) (T.obj _ _ k);refine jk l (bK (O _ L σ3 M x u _ B r5 (step x M y5)) λ_ s6 j=>?_);obtain⟨C,H6,I6,q6⟩:=j;refine jk l (bK (U _ s6 C H6 _ I6 q6) λf E c=>?_);have again:∀ {S:St} {Z:Hp},Inv X (pins++nO fp L.heap) S Z E->N S Z->∃m,m<n/\∃i Y H',Inv X pins Y H' E/\G i E.heap/\(∀b∈fp,H' b=none)/\W i m Y H':=λ{S Z} a q=>by
   obtain⟨m',hm,w7⟩:=hN S Z q;refine⟨m',hm,i+1,S,Z,a.unpinned,T.keep _ _ _ k λb U o e=>(a.pin (b,o) (cf _ (cf _ (rd U e)))).1,λb U=>?_,w7⟩;obtain⟨o,e,d⟩:=T.obj _ _ k b U;exact(a.pin (b,o) (cf _ (cf _ (rd U e)))).2.1
  cases f with
  |next=>obtain⟨S,Z,a,q⟩:=c;exact again a q |cont=>obtain⟨S,Z,a,q⟩:=c;exact again a q |brk=>obtain⟨S,Z,a,c⟩:=c;exact⟨S,Z,a.unpinned,c⟩ |ret v=>obtain⟨x7,S,Z,a,r7,c⟩:=c;exact⟨x7,S,Z,a.unpinned,r7,c⟩
abbrev R2:=V->V->Hp->VK->Prop
def fV(X:Cx)(f:Value->Value->Sem Value)(r:R2):Prop :=
 ∀(pins:kl) (s:Shared) (σ:St) (H:Hp) (x y:V) (v u:Value) (Q:VK),Inv X pins σ H s->RelV x v->RelV y u->r x y H Q ->
  wpAny (model X.prog X.w) X.A (f v u) (EP X pins σ Q) X.xe s
def wn(X:Cx)(f:Value->Sem Value)(r:V->Hp->VK->Prop):Prop :=
 ∀(pins:kl) (s:Shared) (σ:St) (H:Hp) (x:V) (v:Value) (Q:VK),Inv X pins σ H s->RelV x v->r x H Q ->
  wpAny (model X.prog X.w) X.A (f v) (EP X pins σ Q) X.xe s
def q9(X:Cx)(f:Value)(r:kv->Hp->VK->Prop):Prop :=
 ∀(pins:kl) (s:Shared) (σ:St) (H:Hp) (xs:kv) (us:h7) (Q:VK),Inv X pins σ H s->aN xs us->r xs H Q ->
  wpAny (model X.prog X.w) X.A (call f us) (EP X pins σ Q) X.xe s
def nP(r:R2)(ta tb:TE):TE:=λσ H Q=>ta σ H λx H1=>tb σ H1 λy H2=>r x y H2 Q
def GO(r:V->Hp->VK->Prop)(ta:TE):TE:=λσ H Q=>ta σ H λx H1=>r x H1 Q
def rI(C:Int->Int->Prop)(g:Int->Int->V):R2:=λx y H Q=>∃i j,x=.int i/\y=.int j/\C i j/\Q (g i j) H
def hV(g:Int->Int->V):R2:=λx y H Q=>∃i j,x=.int i/\y=.int j/\Q (g i j) H
def rU(g:Int->V):V->Hp->VK->Prop:=λx H Q=>∃i,x=.int i/\Q (g i) H
variable{f:Value->Value->Sem Value}
def kU(U:PE X a ta)(Y:PE X b tb){R:V->V->Hp->Prop}(I:Inv X pins σ H s)(h:ta σ H λx H1=>tb σ H1 λy H2=>R x y H2)(Z:∀v u s2 x y H2,Inv X pins σ H2 s2->RelV x v->RelV y u->R x y H2->wpAny (model X.prog X.w) X.A (f v u) Q X.xe s2) :
  wpAny (model X.prog X.w) X.A (eval a X.env) (λv D=>wpAny (model X.prog X.w) X.A (eval b X.env) (λu s₂=>wpAny (model X.prog X.w) X.A (f v u) Q X.xe s₂) X.xe D) X.xe s:=by
 refine bK (U pins s σ H _ I h) λv c S=>?_;obtain⟨x,H1,d,e,g⟩:=S;refine bK (Y pins c σ H1 _ d g) λu s2 S=>?_;obtain⟨y,H2,i,j,k⟩:=S;exact Z v u s2 x y H2 i e j k
variable{r:R2}
def ri(D:fV X (binaryOp op) r)(S:PE X a ta)(U:PE X b tb):PE X (.BinOp a op b pos) (nP r ta tb):=by
 intro pins s σ H Q I h;exact wpAny_BinOp (kU S U I h λv u s2 x y H2 V Y Z q=>D pins s2 σ H2 x y v u Q V Y Z q)
variable{op:CmpOp}
def B5{op:UnaryOp}{r:V->Hp->VK->Prop}(D:wn X (unaryOp op) r)(S:PE X a ta):PE X (.UnaryOp op a pos) (GO r ta):=by
 intro pins s σ H Q I h;exact UnaryOp_ (bK (S pins s σ H _ I h) λv s1 ⟨x,H1,I1,r1,q1⟩=>D pins s1 σ H1 x v Q I1 r1 q1)
variable{g:Int->Int->Int}{C:Addr}
def rk{C:Int->Int->Prop}(rule:∀(i j:Int) (t u:Tok) (s:Shared) (Q:Value->Shared->Prop) (E:Value->Shared->Prop),C i j->Q (.int (g i j) s.toks) { s with toks:=s.toks+1 }->wpAny (model X.prog X.w) X.A (f (.int i t) (.int j u)) Q E s) :
  fV X f (rI C λi j=>.int (g i j)):=by
 intro pins s σ H x y v u Q I D S h;obtain⟨i,j,rfl,rfl,U,q⟩:=h;obtain⟨t,rfl⟩:=D;obtain⟨t',rfl⟩:=S;exact rule i j t t' s _ _ U ⟨.int (g i j),H,I.tok _,⟨_,rfl⟩,q⟩
def nQ(rule:∀(i j:Int) (t u:Tok) (s:Shared) (Q:Value->Shared->Prop) (E:Value->Shared->Prop),Q (.int (g i j) s.toks) { s with toks:=s.toks+1 }->wpAny (model X.prog X.w) X.A (f (.int i t) (.int j u)) Q E s) :
  fV X f (hV λi j=>.int (g i j)):=by
 intro pins s σ H x y v u Q I D S h;obtain⟨i,j,rfl,rfl,q⟩:=h;obtain⟨t,rfl⟩:=D;obtain⟨t',rfl⟩:=S;exact rule i j t t' s _ _ ⟨.int (g i j),H,I.tok _,⟨_,rfl⟩,q⟩
def jW{g:Int->Int->Bool}(rule:∀(i j:Int) (t u:Tok) (s:Shared) (Q:Value->Shared->Prop) (E:Value->Shared->Prop),Q (.bool (g i j)) s->wpAny (model X.prog X.w) X.A (f (.int i t) (.int j u)) Q E s) :
  fV X f (hV λi j=>.bl (g i j)):=by
 intro pins s σ H x y v u Q I D S h;obtain⟨i,j,rfl,rfl,q⟩:=h;obtain⟨t,rfl⟩:=D;obtain⟨t',rfl⟩:=S;exact rule i j t t' s _ _ ⟨.bl (g i j),H,I,rfl,q⟩
def nR(i j:Int):Prop:=0<j/\j<1073741824
def kW(i j:Int):Prop:=0<=j/\j<=1000000/\i.natAbs<2 ^ 64
def jX(i j:Int):Prop:=(-(2 ^ 64)<i/\i<2 ^ 64)\/(-(2 ^ 64)<j/\j<2 ^ 64)
def jX.ok(h:jX i j):IntMulOk i j:=by
 rcases h with⟨h1,h2⟩ | ⟨h1,h2⟩
 ·exact .of_left (intBits_le_64 h1 h2)
 ·exact .of_right (intBits_le_64 h1 h2)
def GP:fV X (binaryOp .Add) (hV λi j=>.int (i+j)):=nQ λ_ _ _ _ _ _ _ q=>add_int q
def B6:fV X (binaryOp .Sub) (hV λi j=>.int (i-j)):=nQ λ_ _ _ _ _ _ _ q=>sub_int q
def GQ:fV X (binaryOp .Mult) (rI jX λi j=>.int (i*j)):=rk λ_ _ _ _ _ _ _ D q=>mul_int q D.ok
def GR:fV X (binaryOp .FloorDiv) (rI nR λi j=>.int (i / j)):=rk λi j _ _ _ _ _ D q=>by
 have h1:(0:Int)<j:=D.1;have h2:j<1073741824:=D.2;exact floordiv_int (by omega) (by rw[Int.fdiv_eq_ediv_of_nonneg i (by omega)];exact q) (.inl (PyProof.noPylong_small (by omega)))
def GS:fV X (binaryOp .Mod) (rI (λ_ j=>0<j) λi j=>.int (i % j)):=rk λi j _ _ _ _ _ D q=>by
 have h1:(0:Int)<j:=D;exact mod_int' (by omega) (by rw[Int.fmod_eq_emod_of_nonneg i (by omega)];exact q)
def GT:fV X (binaryOp .Pow) (rI kW λi j=>.int (i ^ j.toNat)):=rk λ_ _ _ _ _ _ _ D q=>pow_int_small D.1 D.2.1 D.2.2 q
variable{f:Addr}
def GU{f:Value->Sem Value}{g:Int->Int}(rule:∀(i:Int) (t:Tok) (s:Shared) (Q:Value->Shared->Prop) (E:Value->Shared->Prop),Q (.int (g i) s.toks) { s with toks:=s.toks+1 }->wpAny (model X.prog X.w) X.A (f (.int i t)) Q E s) :
  wn X f (rU λi=>.int (g i)):=by
 intro pins s σ H x v Q I D h;obtain⟨i,rfl,q⟩:=h;obtain⟨t,rfl⟩:=D;exact rule i t s _ _ ⟨.int (g i),H,I.tok _,⟨_,rfl⟩,q⟩
def B7:wn X (unaryOp .USub) (rU λi=>.int (-i)):=GU λ_ _ _ _ _ q=>neg_int q
def nS:V->V->Bool
 | .non,.non=>true | .non,.int _=>true | .int _,.non=>true | .non,.bl _=>true | .bl _,.non=>true | .non,.str _=>true | .str _,.non=>true | .int _,.int _=>true | .bl _,.bl _=>true | .str _,.str _=>true | .byt _,.byt _=>true | .int _,.str _=>true | .str _,.int _=>true | .bl _,.str _=>true | .str _,.bl _=>true |_,_=>false
def B8:R2:=λx y H Q=>nS x y=true/\Q (.bl (decide (x=y))) H
def B9:R2:=λx y H Q=>nS x y=true/\Q (.bl (!decide (x=y))) H
def BA:decide (V.int i=V.int j)=(i==j):=by
 rw[nr];simp
def BC{i j:Bool}:decide (V.bl i=V.bl j)=(i==j):=by
 rw[nr];simp
def BD{i j:Str}:decide (V.str i=V.str j)=(i==j):=by
 rw[nr];simp
def BE{i j:Array UInt8}:decide (V.byt i=V.byt j)=(i.toList==j.toList):=by
 rw[nr];cases i;cases j;simp
def ma{Q:VK}{k k':Bool}(I:Inv X pins σ H s)(q:Q (.bl k) H)(e:k=k'):EP X pins σ Q (.bool k') s:=by
 subst e;exact⟨.bl k,H,I,rfl,q⟩
def BF:fV X (compareOp .Eq) B8:=by
 intro pins s σ H x y v u Q I U D h;obtain⟨S,q⟩:=h;cases x with
 |non =>
   cases U;cases y with
   |non=>cases D;exact PySem.EqNone.eq_none_none (ma I q ⋯)
   |bl j=>cases D;exact PySem.EqNone.eq_none_bool (ma I q ⋯)
   |int j=>obtain⟨t',rfl⟩:=D;exact PySem.EqNone.eq_none_int (ma I q ⋯) |str j=>obtain⟨t',rfl⟩:=D;exact PySem.EqNone.eq_none_str (ma I q ⋯) |_=>exact absurd (show false=true from S) de
 |bl i =>
   cases U;cases y with
   |non=>cases D;exact PySem.EqNone.eq_bool_none (ma I q ⋯)
   |bl j=>cases D;exact eq_bool (ma I q BC)
   |str j=>obtain⟨t',rfl⟩:=D;exact PySem.EqMixed.eq_bool_str (ma I q ⋯) |_=>exact absurd (show false=true from S) de
 |int i =>
   obtain⟨t,rfl⟩:=U;cases y with
   |non=>cases D;exact PySem.EqNone.eq_int_none (ma I q ⋯)
   |int j=>obtain⟨t',rfl⟩:=D;exact eq_int (ma I q BA) |str j=>obtain⟨t',rfl⟩:=D;exact PySem.EqMixed.eq_int_str (ma I q ⋯) |_=>exact absurd (show false=true from S) de
 |str i =>
   obtain⟨t,rfl⟩:=U;cases y with
   |non=>cases D;exact PySem.EqNone.eq_str_none (ma I q ⋯)
   |bl j=>cases D;exact PySem.EqMixed.eq_str_bool (ma I q ⋯)
   |int j=>obtain⟨t',rfl⟩:=D;exact PySem.EqMixed.eq_str_int (ma I q ⋯) |str j=>obtain⟨t',rfl⟩:=D;exact eq_str (ma I q BD) |_=>exact absurd (show false=true from S) de
 |byt i =>
   obtain⟨t,rfl⟩:=U;cases y with
   |byt j=>obtain⟨t',rfl⟩:=D;exact PySem.W.eq_bytes (ma I q BE) |_=>exact absurd (show false=true from S) de
 |_=>cases y <;> exact absurd (show false=true from S) de
def GV:fV X (compareOp .NotEq) B9:=by
 intro pins s σ H x y v u Q I U D h;obtain⟨S,q⟩:=h;cases x with
 |non =>
   cases U;cases y with
   |non=>cases D;exact PySem.EqNone.ne_none_none (ma I q ⋯)
   |bl j=>cases D;exact PySem.EqNone.ne_none_bool (ma I q ⋯)
   |int j=>obtain⟨t',rfl⟩:=D;exact PySem.EqNone.ne_none_int (ma I q ⋯) |str j=>obtain⟨t',rfl⟩:=D;exact PySem.EqNone.ne_none_str (ma I q ⋯) |_=>exact absurd (show false=true from S) de
 |bl i =>
   cases U;cases y with
   |non=>cases D;exact PySem.EqNone.ne_bool_none (ma I q ⋯)
   |bl j=>cases D;exact ne_bool (ma I q (congrArg not BC))
   |str j=>obtain⟨t',rfl⟩:=D;exact PySem.EqMixed.ne_bool_str (ma I q ⋯) |_=>exact absurd (show false=true from S) de
 |int i =>
   obtain⟨t,rfl⟩:=U;cases y with
   |non=>cases D;exact PySem.EqNone.ne_int_none (ma I q ⋯)
   |int j=>obtain⟨t',rfl⟩:=D;exact ne_int (ma I q (congrArg not BA)) |str j=>obtain⟨t',rfl⟩:=D;exact PySem.EqMixed.ne_int_str (ma I q ⋯) |_=>exact absurd (show false=true from S) de
 |str i =>
   obtain⟨t,rfl⟩:=U;cases y with
   |non=>cases D;exact PySem.EqNone.ne_str_none (ma I q ⋯)
   |bl j=>cases D;exact PySem.EqMixed.ne_str_bool (ma I q ⋯)
   |int j=>obtain⟨t',rfl⟩:=D;exact PySem.EqMixed.ne_str_int (ma I q ⋯) |str j=>obtain⟨t',rfl⟩:=D;exact ne_str (ma I q (congrArg not BD)) |_=>exact absurd (show false=true from S) de
 |byt i =>
   obtain⟨t,rfl⟩:=U;cases y with
   |byt j=>obtain⟨t',rfl⟩:=D;exact PySem.W.ne_bytes (ma I q (congrArg not BE)) |_=>exact absurd (show false=true from S) de
 |_=>cases y <;> exact absurd (show false=true from S) de
def GW:fV X (compareOp .Lt) (hV λi j=>.bl (decide (i<j))):=jW λ_ _ _ _ _ _ _ q=>lt_int q
def GX:fV X (compareOp .LtE) (hV λi j=>.bl (decide (i<=j))):=jW λ_ _ _ _ _ _ _ q=>le_int q
def BG:fV X (compareOp .Gt) (hV λi j=>.bl (decide (j<i))):=jW λ_ _ _ _ _ _ _ q=>gt_int q
def GY:fV X (compareOp .GtE) (hV λi j=>.bl (decide (j<=i))):=jW λ_ _ _ _ _ _ _ q=>ge_int q
def wg(b:Expr)(h:op≠.In:=by decide)(h2:op≠.NotIn:=by decide):behindInMarks op b=false:=by
 have D:(op==CmpOp.In)=false:=by cases op <;> first |rfl |exact absurd rfl h
 have I:(op==CmpOp.NotIn)=false:=by cases op <;> first |rfl |exact absurd rfl h2
 cases b <;> simp[behindInMarks,D,I]
def GZ(D:fV X (compareOp op) r)(S:PE X a ta)(U:PE X b tb)(V:behindInMarks op b=false):PE X (.Compare a [op] [b] pos) (nP r ta tb):=by
 intro pins s σ H Q I h;exact wpAny_Compare1 (kU S U I h λv u s2 x y H2 Y Z c q=>D pins s2 σ H2 x y v u Q Y Z c q) V
def BH(t:TE):TT:=λσ H Q=>t σ H λx H'=>∃k,x=.bl k/\Q k H'
def G_(D:fV X (compareOp op) r)(S:PE X a ta)(U:PE X b tb)(V:behindInMarks op b=false):PT X (.Compare a [op] [b] pos) (BH (nP r ta tb)):=by
 intro pins s σ H Q I h;refine wpAny_isTrue_Compare1 (bK (S pins s σ H _ I h) λv s1 ⟨x,H1,I1,r1,q1⟩=>bK (U pins s1 σ H1 _ I1 q1) λu s2 ⟨y,H2,I2,r2,q2⟩ =>
  bK (D pins s2 σ H2 x y v u _ I2 r1 r2 q2) λc s3 ⟨z,H3,I3,r3,k,e,q3⟩=>?_) V
 subst e;cases r3;exact nj ⟨H3,I3,q3⟩
def l_:(sizeLine:Nat)<2 ^ 63:=by rw[gz];decide
variable{x:V}
def xn(r:aN [x] us):∃u,us=[u]/\RelV x u:=by
 cases r with
 |cons r1 r2=>cases r2;exact⟨_,rfl,r1⟩
variable{y:V}
def rl(r:aN [x,y] us):∃u D,us=[u,D]/\RelV x u/\RelV y D:=by
 cases r with
 |cons r1 r2 =>
   cases r2 with
   |cons r3 r4=>cases r4;exact⟨_,_,rfl,r1,r3⟩
def Ha(S:X.calm=true):q9 X (.builtin "max") (λxs H Q=>∃i j,xs=[↥i,↥j]/\Q ↥(if j > i then j else i) H):=by
 intro pins s σ H xs us Q I r h;obtain⟨i,j,rfl,q⟩:=h;obtain⟨u,U,rfl,⟨t,rfl⟩,⟨t',rfl⟩⟩:=rl r;refine max_two_ints (I.ok.hd S) λh' tk k=>⟨_,H,I.kept k,?_,q⟩;by_cases D:j > i
 ·rw[am D,am D];exact⟨_,rfl⟩
 ·rw[bw D,bw D];exact⟨_,rfl⟩
def Hb:q9 X (.type "int") (λxs H Q=>(∃i,xs=[↥i]/\Q ↥i H)\/∃k,xs=[.bl k]/\Q ↥(if k then 1 else 0) H):=by
 intro pins s σ H xs us Q I r h;rcases h with⟨i,rfl,q⟩ | ⟨k,rfl,q⟩
 ·obtain⟨u,rfl,t,rfl⟩:=xn r
  exact call_int_int ⟨.int i,H,I,⟨_,rfl⟩,q⟩
 ·obtain⟨u,rfl,D⟩:=xn r
  cases D;exact call_int_bool ⟨.int (if k then 1 else 0),H,I.tok _,⟨_,rfl⟩,q⟩
structure h_ (h:Heap) (x dx C:Addr) (mA:Str->h8):Prop where
 obj:h.get? x=↑(PySem.W.instObj C dx)
 ns:h.Ns1 dx mA
 ne:dx≠x
variable{dx:Addr}{mA:Str->h8}
def Hc(n:h.Ns1 dx mA):∃od,h.get? dx=↑od/\∀name,PySem.W.lookIn name od=↑(mA name):=by
 obtain⟨o,es,Z,I,hd,S,_,U⟩:=n;refine⟨o,I,λname=>?_⟩;have e:=U name;unfold nsFind findBy at e;rw[<-Array.find?_toList] at e;unfold PySem.W.lookIn;rw[hd];dsimp only;split
 ·rename_i y q
  rw[q] at e;exact congrArg some e
 ·rename_i q
  rw[q] at e;have a:es.toList.any (·.refKey)=false:=by
   rw[List.any_eq_false];intro y V;obtain⟨z,t,D⟩:=S y (Array.mem_toList_iff.mp V);simp[DictEntry.refKey,D]
  have Y:¬es.toList.any (·.refKey)=true:=by rw[a];exact de
  rw[bw Y];exact congrArg some e
variable{x:Addr}
def h_.look(I:h_ h x dx C mA):∃od,PySem.W.InstAt h x (PySem.W.instObj C dx) C ↑od/\∀name,PySem.W.lookIn name od=↑(mA name) :=
 let ⟨od,D,S⟩:=Hc I.ns
 ⟨od,⟨I.obj,rfl,rfl,D⟩,S⟩
variable{prog:Program}{name:Str}
def He{D:Bool}(X:K.In s.heap)(I:h_ s.heap x dx C mA)(U:PySem.W.plainGet K C name=true)(V:PySem.W.hasDictIn K C=true)(Y:PySem.W.findIn K (.ref C) name=↑none)(Z:mA name=↑v)(S:PySem.W.handedIn v=true)(h:Q v { s with toks:=s.toks+1 }) :
  wpAny (model prog w) A (getAttr (.ref x) name D) Q E s:=by
 obtain⟨od,J,a⟩:=I.look;exact PySem.W.get_value X J (p8 U).1 (PySem.W.findObj_own V Y rfl (by rw[a,Z])) S h
def Hf{Q:Value×h7->Shared->Prop}(X:K.In s.heap)(I:h_ s.heap x dx C mA)(D:PySem.W.plainGet K C name=true)(S:PySem.W.findIn K (.ref C) name=↑↑(.ref f))(U:PySem.W.isFn K (.ref f)=true)(V:mA name=none)(h:Q (.ref f,[.ref x]) s) :
  wpAny (model prog w) A (getMethod (.ref x) name pl) Q E s:=by
 obtain⟨od,J,Y⟩:=I.look;exact PySem.W.method_fn X J (p8 D).1 (p8 D).2 S (l6.mp U) (by show(PySem.W.lookIn name od).map (·.isSome)=↑false;rw[Y,V];rfl) h
def Hg{ns:h6}{Q:Unit->Shared->Prop}(X:K.In s.heap)(I:h_ s.heap x dx C mA)(c:PySem.W.findIn K (.ref C) "__setattr__" = ↑↑(.builtin "object.__setattr__"))(d:PySem.W.plainOver K C=true)(e:PySem.W.takerIn K C name=↑none)(f:PySem.W.hasDictIn K C=true)(g:PySem.Within mA ns)(i:ns.length<=sizeLine)(h:∀h',h_ h' x dx C (λy=>if y=name then ↑v else mA y)->Heap.SameBut dx s.heap h'->Q () { s with heap:=h',toks:=s.toks+2 }) :
  wpAny (model prog w) A (setAttr (.ref x) name v) Q E s:=by
 obtain⟨od,J,n⟩:=I.look;refine PySem.W.set_plain X J c (PySem.W.osa_open (s:={ s with toks:=s.toks+1 }) (r:=none) X J d e λb=>?_);obtain⟨cd,j,U⟩:=PySem.W.any_some f;have k:s.heap.get? x=↑⟨.ref C,↑dx,.plain,#[]⟩:=I.obj;refine au (cz (au (au (wpAny_loadPart k (au (PySem.W.Looks.here (s:={ s with toks:=s.toks+1 }) (PySem.W.looks_clsIn X j) ?_))))));rw[U];refine cz (a:=↑dx) (au (cz (au ?_)));refine wpAny_nsSet1 (s:={ s with toks:=s.toks+1 }) I.ns λh' D S=>?_;obtain⟨o,l,m,V,Y,Z⟩:=D.count (PySem.Within.cons name v g);refine au (wpAny_lookBehind V (by rw[Y];exact pastItsLine_dict (d7 Z (by rw[ao];omega))) ?_);exact cz (h _ ⟨(S.2 _ (Ne.symm I.ne)).trans I.obj,D,I.ne⟩ S)
variable{kw:List (Str×Value)}
def Hh{R:Result->Shared->Prop}{vs:h7}(X:K.In s.heap)(I:PySem.W.makesIn K C=true)(hi:PySem.W.findIn K (.ref C) "__init__" = ↑↑(.ref f))(S:PySem.W.typeIn K (.ref f)=↑(.type "function"))(h:codeAny (model prog w) (A.under (.builtin "type.__call__" ⟨.ref C::vs,kw⟩)) (.call (.ref f) ⟨.ref (s.heap.objs.size+1)::vs,kw⟩) (PySem.W.InitBack (s.heap.objs.size+1) R)
   { s with heap:=(s.heap.push PySem.W.emptyDict).push (PySem.W.instObj C s.heap.objs.size) }) :
  codeAny (model prog w) A (.call (.ref C) ⟨vs,kw⟩) R s:=by
 obtain⟨U,g,d,t,os⟩:=s;exact PySem.W.make_core (PySem.W.makes_of X I) (PySem.W.looks_findIn X hi) (λD=>PySem.W.bind_fn X D S) (.inl rfl) h
def dY(f:Str)(v:V):List (Str×V)->List (Str×V)
 | []=>[(f,v)] | (g,x)::r=>if g=f then(g,v)::r else(g,x)::dY f v r
def BI(f g:Str)(v:V):∀fs:List (Str×V),(dY f v fs).lookup g=if g=f then ↑v else fs.lookup g
 | []=>by
   show List.lookup g [(f,v)]=_;by_cases h:g=f
   ·have D:(g==f)=true:=l6.mpr h
    simp only[List.lookup,D,am h]
   ·have D:(g==f)=false:=beq_eq_false_iff_ne.mpr h
    simp only[List.lookup,D,bw h]
 | (k,x)::r=>by
   have S:=BI f g v r;rw[show dY f v ((k,x)::r)=(if k=f then(k,v)::r else(k,x)::dY f v r) from rfl];by_cases I:k=f
   ·rw[am I]
    by_cases h:g=k
    ·have D:(g==k)=true:=l6.mpr h
     simp only[List.lookup,D,am (h.trans I)]
    ·have D:(g==k)=false:=beq_eq_false_iff_ne.mpr h
     simp only[List.lookup,D,bw (λe:g=f=>h (e.trans I.symm))]
   ·rw[bw I]
    by_cases h:g=k
    ·have D:(g==k)=true:=l6.mpr h
     simp only[List.lookup,D,bw (λe:g=f=>I (h.symm.trans e))]
    ·have D:(g==k)=false:=beq_eq_false_iff_ne.mpr h
     simp only[List.lookup,D];exact S
def w5(f:Str)(v:V):∀fs:List (Str×V),f∈(dY f v fs).map (·.1)/\∀g,g∈fs.map (·.1)->g∈(dY f v fs).map (·.1)
 | []=>⟨by simp[dY],λg h=>by simp at h⟩ | (k,x)::r=>by
   obtain⟨I,S⟩:=w5 f v r;rw[show dY f v ((k,x)::r)=(if k=f then(k,v)::r else(k,x)::dY f v r) from rfl];by_cases D:k=f
   ·rw[am D]
    subst D;exact⟨by simp,λg h=>by simpa using h⟩
   ·rw[bw D]
    refine⟨?_,λg h=>?_⟩
    ·rw[b9]
     exact bg _ I
    ·rw[b9] at h ⊢
     rcases b6.mp h with e |e
     ·exact b6.mpr (.inl e)
     ·exact bg _ (S g e)
def BJ(f:Str)(v:V):∀fs:List (Str×V),(dY f v fs).length<=fs.length+1
 | []=>by simp[dY] | (k,x)::r=>by
   have I:=BJ f v r;rw[show dY f v ((k,x)::r)=(if k=f then(k,v)::r else(k,x)::dY f v r) from rfl];by_cases D:k=f
   ·rw[am D,ao,ao];omega
   ·rw[bw D,ao,ao];omega
variable{o:h8}{v:V}
def eQ.some_of(r:eQ ↑v o):∃u,o=↑u/\RelV v u:=by
 cases o with
 |none=>exact(show False from r).elim |some u=>exact⟨u,rfl,r⟩
def eQ.none_of(r:eQ none o):o=none:=by
 cases o with
 |none=>rfl |some u=>exact(show False from r).elim
def Hi(r:RelV v u):PySem.W.handedIn u=true:=by
 cases v with
 |non=>cases (show u=Value.none from r);rfl
 |bl b=>cases (show u=Value.bool b from r);rfl
 |int i=>obtain⟨t,e⟩:=(show ∃t,u=Value.int i t from r);cases e;rfl
 |str x=>obtain⟨t,e⟩:=(show ∃t,u=Value.str x t from r);cases e;rfl
 |byt b=>obtain⟨t,e⟩:=(show ∃t,u=Value.bytes b t from r);cases e;rfl
 |flt b=>obtain⟨t,e⟩:=(show ∃t,u=Value.float b t from r);cases e;rfl
 |ref a=>cases (show u=Value.ref a from r);rfl
 |ty n=>cases (show u=Value.type n from r);rfl
variable{a:Addr}{fs:List (Str×V)}
def ry(D:eY P w H h)(e:H a=↑(.ins C dx fs)):∃mA,h_ h a dx C mA/\(∀f,eQ (fs.lookup f) (mA f))/\PySem.Within mA (fs.map (·.1))/\fs.length<=1000/\H dx=↑(.own a):=by
 obtain⟨d,z,I,S,mA,n,r,q⟩:=(show bQ P w H h a (.ins C dx fs) from D a _ e);exact⟨mA,⟨S,n,I⟩,r,q,z,d⟩
structure iA (K:kf) (C:Addr):Prop where
 pg:PySem.W.plainGet K C Str.empty=true
 hd:PySem.W.hasDictIn K C=true
 po:PySem.W.plainOver K C=true
 sa:PySem.W.findIn K (.ref C) "__setattr__" = ↑↑(.builtin "object.__setattr__")
def iA.get(c:iA K C)(f:Str):PySem.W.plainGet K C f=true:=c.pg
def eZ(K:kf)(C:Addr)(f:Str):Prop:=PySem.W.findIn K (.ref C) f=↑none
variable{f:Str}
def eZ.taker(n:eZ K C f):PySem.W.takerIn K C f=↑none:=by
 unfold PySem.W.takerIn;rw[show PySem.W.findIn K (.ref C) f=↑none from n];rfl
structure OB (K:kf) (C:Addr) (f:Str) (v:V) (u:Value):Prop where
 at_:PySem.W.findIn K (.ref C) f=↑↑u
 rel:RelV v u
 get:PySem.W.specialIn K u "__get__" = ↑none
 cp:PySem.W.copiedNames.contains f=false
structure jE (K:kf) (C:Addr) (m:Str) (f:Addr):Prop where
 at_:PySem.W.findIn K (.ref C) m=↑↑(.ref f)
 fn:PySem.W.isFn K (.ref f)=true
 kp:PySem.W.keepIn K (.ref f)=true
variable{b:Bool}
def Hj(I:Inv X pins σ H s)(e:H a=↑(.ins C dx fs))(c:iA X.K C)(n:eZ X.K C f)(l:fs.lookup f=↑v)(h:∀u s',Inv X pins σ H s'->RelV v u->Q u s'):wpAny (model X.prog X.w) A (getAttr (.ref a) f b) Q E s:=by
 obtain⟨mA,O,r,_,_,_⟩:=ry I.hok e;obtain⟨u,S,D⟩:=eQ.some_of (v:=v) (o:=mA f) (by rw[<-l];exact r f);exact He I.kIn O (c.get f) c.hd n S (Hi D) (h u _ (I.tok _) D)
def BK{m:Str}{g:Addr}{Q:Value×h7->Shared->Prop}(I:Inv X pins σ H s)(e:H a=↑(.ins C dx fs))(c:iA X.K C)(k:jE X.K C m g)(l:fs.lookup m=none)(h:Q (.ref g,[.ref a]) s):wpAny (model X.prog X.w) A (getMethod (.ref a) m pl) Q E s:=by
 obtain⟨mA,O,r,_,_,_⟩:=ry I.hok e;have D:mA m=none:=eQ.none_of (by rw[<-l];exact r m);exact Hf I.kIn O (c.get m) k.at_ k.fn D h
def Hk{Q:Unit->Shared->Prop}(I:Inv X pins σ H s)(e:H a=↑(.ins C dx fs))(c:iA X.K C)(n:eZ X.K C f)(d:fs.length<1000)(S:RelV y u)(h:∀s',Inv X pins σ (aX H a (.ins C dx (dY f y fs))) s'->Q () s'):wpAny (model X.prog X.w) A (setAttr (.ref a) f u) Q E s:=by
 obtain⟨mA,O,r,wi,_,D⟩:=ry I.hok e;have U:(fs.map (·.1)).length<=sizeLine:=by rw[ai,gz];omega
 refine Hg I.kIn O c.sa c.po n.taker c.hd wi U λh' O' V=>h _ ?_;have hd:∃o,h'.get? dx=↑o:=let ⟨o,_,_,e',_⟩:=O'.ns;⟨o,e'⟩;refine I.write (x:=a) (e:=dx) (by rw[e];exact True.intro) (.inr D) (λb q Y z=>(V.2 b Y).trans z) hd ?_;refine⟨by rw[i4 O.ne];exact D,?_,O.ne,O'.obj,_,O'.ns,λg=>?_,λg Z=>?_⟩
 ·have:=BJ f y fs;omega
 ·show eQ ((dY f y fs).lookup g) (if g=f then ↑u else mA g)
  rw[BI];by_cases q:g=f
  ·rw[am q,am q];exact S
  ·rw[bw q,bw q];exact r g
 ·by_cases q:g=f
  ·rw[q];exact(w5 f y fs).1
  ·refine(w5 f y fs).2 g (wi g λz=>Z ?_)
   show(if g=f then ↑u else mA g)=none;rw[bw q];exact z
def Inv.made(I:Inv X pins σ H s):Inv X pins σ (aX (aX H s.heap.objs.size (.own (s.heap.objs.size+1))) (s.heap.objs.size+1) (.ins C s.heap.objs.size []))
  { s with heap:=(s.heap.push PySem.W.emptyDict).push (PySem.W.instObj C s.heap.objs.size) }:=by
 have D:(s.heap.push PySem.W.emptyDict).get? s.heap.objs.size=↑PySem.W.emptyDict:=cx s.heap rfl;have U:((s.heap.push PySem.W.emptyDict).push (PySem.W.instObj C s.heap.objs.size)).get? (s.heap.objs.size+1)=↑(PySem.W.instObj C s.heap.objs.size):=by
  have:=cx (s.heap.push PySem.W.emptyDict) (o:=PySem.W.instObj C s.heap.objs.size) rfl;rwa [jb] at this
 have V:(s.heap.push PySem.W.emptyDict).Ns s.heap.objs.size (λ_=>none):=⟨PySem.W.emptyDict,#[],_,D,rfl,(λe Y=>absurd Y ⋯),λ_=>rfl⟩;have Z:=I.laid (a:=s.heap.objs.size) (o:=.own (s.heap.objs.size+1)) (h':=s.heap.push PySem.W.emptyDict) (t':=s.toks) (λb u q=>aq _ q) (cw _) ⟨_,D⟩;refine Z.laid (a:=s.heap.objs.size+1) (o:=.ins C s.heap.objs.size []) (t':=s.toks) (λb u q=>aq _ q) (Nat.le_of_eq (jb _ _)) ?_;have S:s.heap.objs.size≠s.heap.objs.size+1:=bu (ft _);refine⟨by rw[i4 S,md],ie _,S,U,λ_=>none,(Heap.Ns1.of_empty V).at λo q=>aq _ q,λ_=>True.intro,λy c=>absurd rfl c⟩
def Hl{env:Env}(I:attributeBase e f env (eval e env)=eval e env)(h:wpAny (model prog w) A (eval e env) (λo D=>wpAny (model prog w) A (getAttr o f true) Q E D) E s):wpAny (model prog w) A (eval (.Attribute e f pos) env) Q E s :=
 Attribute_any_ h (by rw[arm_eval_Attribute,I])
def w6(K:kf)(ta:TE)(f:Str):TE:=λσ H Q=>ta σ H λx H1=>∃a C dx fs v,x=.ref a/\H1 a=↑(.ins C dx fs)/\iA K C/\eZ K C f/\fs.lookup f=↑v/\Q v H1
def wA(K:kf)(ta tv:TE)(f:Str):TS:=λD σ H=>tv σ H λy H1=>ta σ H1 λx H2=>∃a C dx fs,x=.ref a/\H2 a=↑(.ins C dx fs)/\iA K C/\eZ K C f/\fs.length<1000 /\
 D.nx σ (aX H2 a (.ins C dx (dY f y fs)))
def BL(D:PE X e ta)(S:attributeBase e f X.env (eval e X.env)=eval e X.env):PE X (.Attribute e f pos) (w6 X.K ta f):=by
 intro pins s σ H Q I h;refine Hl S (bK (D pins s σ H _ I h) λu d U=>?_);obtain⟨x,H1,V,Y,a,C,dx,fs,v,ex,ea,c,n,l,q⟩:=U;subst ex;obtain rfl:u=Value.ref a:=Y;exact Hj V ea c n l λg s2 Z b=>⟨v,H1,Z,b,q⟩
variable{o value:Expr}{tv:TE}
def Hm(U:PE X o ta)(V:PE X value tv)(Y:swapsWith value ↑(.Attribute o f pos') pos.line X.env=pure false):PS X (.Assign [.Attribute o f pos'] value pos) (wA X.K ta tv f):=by
 intro pins s σ H D I h;refine plainObj_wpAny_Assign_Attribute (bK (V pins s σ H _ I h) λu Z S=>?_) Y;obtain⟨y,H1,b,d,q⟩:=S;refine bK (U pins Z σ H1 _ b q) λe s2 S=>?_;obtain⟨x,H2,g,i,a,C,dx,fs,ex,ea,c,n,l,j⟩:=S;subst ex;obtain rfl:e=Value.ref a:=i;exact Hk g ea c n l d λm k=>⟨σ,_,k,j⟩
inductive fD (K:kf) (H:Hp):V->Value->Prop where
 |non:fD K H .non (.type "NoneType")
 |bl (x:Bool):fD K H (.bl x) (.type "bool")
 |int (i:Int):fD K H ↥i (.type "int")
 |str (x:Str):fD K H (.str x) (.type "str")
 |flt (x:UInt64):fD K H (.flt x) (.type "float")
 |lst {a:Addr} {xs:kv} (e:H a=↑(.lst xs)):fD K H (.ref a) (.type "list")
 |frz {a:Addr} {o:Obj} {xs:kv} (e:H a=↑(.frz o (.lst xs))):fD K H (.ref a) (.type "list")
 |tup {a:Addr} {xs:kv} (e:H a=↑(.tup xs)):fD K H (.ref a) (.type "tuple")
 |dK {a:Addr} {kvs:List (dS×V)} (e:H a=↑(.dK kvs)):fD K H (.ref a) (.type "dict")
 |dT {a:Addr} {kvs:List (List dS×V)} (e:H a=↑(.dT kvs)):fD K H (.ref a) (.type "dict")
 |ins {a C dx:Addr} {fs:List (Str×V)} (e:H a=↑(.ins C dx fs)) (cl:iA K C) (ha:PySem.W.findIn K (.ref C) "__class__" = ↑↑(.builtin "object.__class__"))
    (hn:PySem.W.specialIn K (.builtin "object.__class__") "__get__" = ↑↑(.builtin "getset_descriptor.__get__")) (htk:PySem.W.takesIn K (.builtin "object.__class__")=↑true)
    (hm:PySem.W.mroIn K C (.type "object")=↑true):fD K H (.ref a) (.ref C)
variable{x:Str}{c:Value}
def Hn{x:V}{t:Value}(I:Inv X pins σ H s)(D:RelV x u)(ty:fD X.K H x t)(e:PySem.W.kitOne X.K t c=↑b)(h:∀tk,Q (.bool b) { s with toks:=tk }) :
  wpAny (model X.prog X.w) A (call (.builtin "isinstance") [u,c]) Q E s:=by
 cases ty with
 |non=>cases (show u=Value.none from D);exact fj PySem.W.kitx_none I.kIn True.intro e (λz=>nomatch z) h
 |bl y=>cases (show u=Value.bool y from D);exact fj PySem.W.kitx_bool I.kIn True.intro e (λz=>nomatch z) h
 |int i=>obtain⟨t,q⟩:=(show ∃t,u=Value.int i t from D);cases q;exact fj PySem.W.kitx_int I.kIn True.intro e (λz=>nomatch z) h
 |str y=>obtain⟨t,q⟩:=(show ∃t,u=Value.str y t from D);cases q;exact fj PySem.W.kitx_str I.kIn True.intro e (λz=>nomatch z) h
 |flt y=>obtain⟨t,q⟩:=(show ∃t,u=Value.float y t from D);cases q;exact fj PySem.W.kitx_float I.kIn True.intro e (λz=>nomatch z) h
 | @lst a xs ea =>
   cases (show u=Value.ref a from D);obtain⟨_,_,n,_,h1⟩:=(show bQ X.prog X.w H s.heap a (.lst xs) from I.hok a _ ea);exact fj sg I.kIn ⟨_,h1,rfl⟩ e (λz=>nomatch z) h
 | @frz a ob xs ea =>
   cases (show u=Value.ref a from D);obtain⟨_,_,_,n,_,h1⟩:=(show bQ X.prog X.w H s.heap a (.frz ob (.lst xs)) from I.hok a _ ea);exact fj sg I.kIn ⟨_,h1,rfl⟩ e (λz=>nomatch z) h
 | @tup a xs ea =>
   cases (show u=Value.ref a from D);obtain⟨_,_,_,p⟩:=(show bQ X.prog X.w H s.heap a (.tup xs) from I.hok a _ ea);obtain⟨o,h1,h2,_⟩:=p;exact fj PySem.W.kitx_tuple I.kIn ⟨o,h1,h2⟩ e (λz=>nomatch z) h
 | @dK a kvs ea =>
   cases (show u=Value.ref a from D);obtain⟨_,_,vs,_,p⟩:=(show bQ X.prog X.w H s.heap a (.dK kvs) from I.hok a _ ea);obtain⟨o,es,S,h1,h2,_⟩:=p;exact fj PySem.W.kitx_dict I.kIn ⟨o,h1,h2.1⟩ e (λz=>nomatch z) h
 | @dT a kvs ea =>
   cases (show u=Value.ref a from D);obtain⟨_,_,xs,_,o,es,S,h1,h2,_⟩:=(show bQ X.prog X.w H s.heap a (.dT kvs) from I.hok a _ ea);exact fj PySem.W.kitx_dict I.kIn ⟨o,h1,h2.1⟩ e (λz=>nomatch z) h
 | @ins a C dx fs ea cl ha hn htk hm =>
   cases (show u=Value.ref a from D);obtain⟨mA,O,_⟩:=ry I.hok ea;obtain⟨od,J,_⟩:=O.look;exact fj (PySem.W.kitx_own (cl.get _) cl.hd ha hn htk hm) I.kIn J e (λz=>nomatch z) h
structure bA (k:Nat) (A:Around):Prop where
 hd:A.handled=none
 dp:A.depth+3*k+5<recursionLimit
 un:A.units+16*k+200<cLine
def bA.mono{j:Nat}(r:bA k A)(h:j<=k):bA j A:=⟨r.hd,by have:=r.dp;omega,by have:=r.un;omega⟩
def bA.deeper(r:bA (k+1) A)(env:Env):bA k (A.deeper env) :=
 ⟨r.hd,by have:=r.dp;show A.depth+1+3*k+5<_;omega,by have:=r.un;show A.units+3+16*k+200<_;omega⟩
def Ho:(A.under (.builtin "type.__call__" ⟨.ref C::us,kw⟩)).depth=A.depth+1:=by
 first |rfl |simp[Around.under,Code.weight,Code.isCreation,Code.isGuard,Code.isCaller,Code.frames,Code.isFrame,guardIds]
def Hq:(A.under (.builtin "type.__call__" ⟨.ref C::us,kw⟩)).units=A.units+1:=by
 first |rfl |simp[Around.under,Code.cUnits,Code.frames,Code.isFrame]
def bA.make(r:bA (k+1) A)(C:Addr)(us:h7)(kw:List (Str×Value)):bA k (A.under (.builtin "type.__call__" ⟨.ref C::us,kw⟩)) :=
 ⟨r.hd,by have:=r.dp;rw[Ho];omega,by have:=r.un;rw[Hq];omega⟩
def bA.depth(r:bA k A):A.depth<recursionLimit:=by have:=r.dp;omega
def bA.units(r:bA k A):A.units+64<cLine:=by have:=r.un;omega
def tNil:TA:=λ_ H Q=>Q [] H
def BM(ta:TE)(tr:TA):TA:=λσ H Q=>ta σ H λx H1=>tr σ H1 λxs H2=>Q (x::xs) H2
def tw:PA X [] tNil:=λ_ _ _ _ H Q I h=>Calls.spliced_nil ⟨[],H,I,.nil,h⟩
def om(D:PE X e te)(S:PA X es t)(U:‹starEach (e::es) X.env=(false,eval e X.env)::starEach es X.env›):PA X (e::es) (BM te t):=by
 intro pos pins s σ H Q I h;rw[U];show wpAny _ _ (spliced ((false,eval e X.env)::backTo pos (starEach es X.env))) _ _ s;refine Calls.spliced_cons (bK (D pins s σ H _ I h) λu V Y=>?_);obtain⟨x,H1,Z,a,b⟩:=Y;exact bK (S pos pins V σ H1 _ Z b) λus s2 ⟨xs,H2,I2,r2,q2⟩=>⟨x::xs,H2,I2,.cons a r2,q2⟩
def wB(t:TA):TE:=λσ H Q=>t σ H λxs H1=>xs.length<=sizeLine/\∀p,H1 p=none->Q (.ref p) (aX H1 p (.tup xs))
def wC(t:TA):TE:=λσ H Q=>t σ H λxs H1=>xs.length<=sizeLine/\∀p,H1 p=none->Q (.ref p) (aX H1 p (.lst xs))
def BN{x1}(h:PA X es t):PE X (.Tuple es x1 pos) (wB t):=by
 intro pins s σ H Q I U;refine wpAny_Tuple_spliced (bK (h pos pins s σ H _ I U) λus D V=>?_);obtain⟨xs,H1,S,r,z,q⟩:=V;refine⟨by rw[<-r.length];exact z,?_⟩;have Y:H1 D.heap.objs.size=none:=S.hok.fresh (cw _);refine⟨.ref D.heap.objs.size,aX H1 D.heap.objs.size (.tup xs),S.laid (t':=D.toks) (λb u e=>aq _ e) (cw _) ?_,rfl,q _ Y⟩;exact⟨z,us,r,⟨_,cx _ rfl,rfl,_,rfl⟩⟩
def BO(h:PA X es t):PE X (.List es pos) (wC t):=by
 intro pins s σ H Q I U;refine wpAny_List_spliced (bK (h pos pins s σ H _ I U) λus D V=>?_);obtain⟨xs,H1,S,r,z,q⟩:=V;refine⟨by rw[<-r.length];exact z,?_⟩;have Y:H1 D.heap.objs.size=none:=S.hok.fresh (cw _);refine⟨.ref D.heap.objs.size,aX H1 D.heap.objs.size (.lst xs),S.laid (t':=D.toks) (λb u e=>aq _ e) (cw _) ?_,rfl,q _ Y⟩;exact⟨z,us,0,r,cx _ rfl⟩
abbrev Sp:=kv->Hp->VK->XK->Prop
abbrev hY:=i0->Hp->Shared->XK->Value->Shared->Prop
structure gO (P:Program) (w:World) (K:kf) (mg:Str->h8) (base:Heap) (A:Around) (outer:i0) (s:Shared) (H:Hp):Prop where
 frames:A.frames=↑outer
 mod:Mod K mg base
 bs:∀b o,base.get? b=↑o->s.heap.get? b=↑o/\H b=none
 bsz:base.objs.size<=s.heap.objs.size
 funs:s.heap.FunFrames base outer
 frf:∀b∈fA outer,H b=none
 hok:eY P w H s.heap
 bare:AllBare s.gens
def CE(outer:i0)(P:Program)(w:World)(H:Hp)(s:Shared)(Q:VK)(u:Value)(s':Shared):Prop :=
 ∃v H',s'.os=s.os/\AllBare s'.gens/\Un (fA outer) [] H H' s.heap s'.heap/\eY P w H' s'.heap/\RelV v u/\Q v H'
def CR(CX:hY)(outer:i0)(P:Program)(w:World)(H:Hp)(s:Shared)(Q:VK)(E:XK)(r:Result)(s':Shared):Prop :=
 match r with
 | .ok (.ret u)=>CE outer P w H s Q u s' | .ok _=>False | .error e=>CX outer H s E e s'
structure cJ (P:Program) (w:World) (K:kf) (mg:Str->h8) (base:Heap) (CX:hY) (k:Nat) (f:Addr) (fd:FuncData) (ps:h6) (sp:Sp):Prop where
 len:∀vs H Q E,sp vs H Q E->vs.length=ps.length
 run:∀(A:Around) (outer:i0) (s:Shared) (H:Hp) (args:Args) (us:h7) (vs:kv) (Q:VK) (E:XK),bA k A->gO P w K mg base A outer s H->BindsTo s fd args (ps.zip us)->aN vs us->sp vs H Q E ->
  codeAny (model P w) A (.call (.ref f) args) (CR CX outer P w H s Q E) s
variable{f:Addr}{mg:Str->h8}{base:Heap}{CX:hY}{fd:FuncData}{ps:h6}{sp:Sp}
theorem cJ.imp{D:Sp}(F:cJ P w K mg base CX k f fd ps sp)(h:∀vs H Q E,D vs H Q E->sp vs H Q E):cJ P w K mg base CX k f fd ps D :=
 ⟨λvs H Q E q=>F.len vs H Q E (h _ _ _ _ q),λA outer s H args us vs Q E I S U V Y=>F.run A outer s H args us vs Q E I S U V (h _ _ _ _ Y)⟩
variable{outer:i0}
def gO.make(e:gO P w K mg base A outer s H)(C:Addr)(us:h7)(kw:List (Str×Value)) :
  gO P w K mg base (A.under (.builtin "type.__call__" ⟨.ref C::us,kw⟩)) outer s H:=⟨by first |exact e.frames | (simpa[Around.under,Code.envs,Code.isFrame,pushEnvs] using e.frames),e.mod,e.bs,e.bsz,e.funs,e.frf,e.hok,e.bare⟩
protected def Inv.env0(I:Inv X pins σ H s):gO X.prog X.w X.K X.mg X.base X.A X.stack s H :=
 ⟨I.ok.frames,I.ok.mod,I.bs,d7 I.ok.bsz I.sz,I.stack,I.stkFree,I.hok,I.bare⟩
variable{Q:VK}
def Inv.after(I:Inv X pins σ H s)(h:CE X.stack X.prog X.w H s Q u s'):EP X pins σ Q u s':=by
 obtain⟨v,H',os,D,un,S,r,q⟩:=h;obtain⟨V,g,d,t,U⟩:=s';obtain rfl:U=s.os:=os;exact⟨v,H',I.call (h':=V) (g':=g) (d':=d) (t':=t) (ch:=[]) un S D (λb z=>absurd z ⋯),r,q⟩
def rz(sp:Sp)(dvs:kv)(E:XK)(t:TA):TE:=λσ H Q=>t σ H λvs H1=>sp (vs++dvs) H1 Q E
def Binds(K:kf)(fd:FuncData)(ps:h6)(ds:h7):Prop :=
 ∀(s:Shared) (us:h7),K.In s.heap->(us++ds).length=ps.length->BindsTo s fd ⟨us,[]⟩ (ps.zip (us++ds))
def Binds.all(h:∀us:h7,us.length=ps.length->bindArgs fd ⟨us,[]⟩=pure (ps.zip us)):Binds K fd ps []:=λs us _ D=>by
 rw[du] at D ⊢;exact .of_eq (h us D)
def wD(CX:hY)(X:Cx)(E:XK):Prop:=∀(pins:kl) (σ:St) (H:Hp) (s:Shared) (e:Value) (s':Shared),Inv X pins σ H s->CX X.stack H s E e s'->X.xe e s'
variable{E:XK}{dvs:kv}{ds:h7}
theorem Hr(F:cJ X.prog X.w X.K X.mg X.base CX k f fd ps sp)(U:bA k X.A)(V:Binds X.K fd ps ds)(hd:aN dvs ds)(Y:wD CX X E)(I:Inv X pins σ H s)(r:aN vs us)(h:sp (vs++dvs) H Q E):wpAny (model X.prog X.w) X.A (call (.ref f) us) (EP X pins σ Q) X.xe s:=by
 have S:aN (vs++dvs) (us++ds):=r.append hd;have Z:(us++ds).length=ps.length:=by rw[<-S.length];exact F.len _ _ _ _ h
 refine m6 (ji (F.run X.A X.stack s H ⟨us,[]⟩ (us++ds) (vs++dvs) Q E U I.env0 (V s us I.kIn Z) S h) λr s' D=>?_);cases r with
 |error e=>exact Y pins σ H s e s' I D |ok fl =>
   cases fl with
   |ret u=>exact I.after D |next=>exact False.elim D |brk=>exact False.elim D |cont=>exact False.elim D
def rA(F:cJ X.prog X.w X.K X.mg X.base CX k f fd ps sp)(V:bA k X.A)(Y:Gl X x)(Z:X.mg x=↑(.ref f))(a:PySem.W.keepIn X.K (.ref f)=true)(b:Binds X.K fd ps ds)(hd:aN dvs ds)(c:wD CX X E)(d:PA X (e::es) t)(D:(x==("__debug__" : Str))=false:=by decide)(g:‹starEach (e::es) X.env=(false,eval e X.env)::starEach es X.env›)(S:‹(backTo pos (starEach es X.env)).any (·.1)=false›) :
  PE X (.Call (.Name x p) (e::es) [] pos) (rz sp dvs E t):=by
 intro pins s σ H Q I h;refine iu (zc I Y Z ?_ D);refine jy (h₀:=X.base) I.ok.mod.kin a (bK (d pos pins s σ H _ I h) λus j i=>?_) g S;obtain⟨vs,H1,U,r,q⟩:=i;refine⟨U.kIn,?_⟩;exact Hr F V b hd c U r q
structure Mk (K:kf) (C f:Addr):Prop where
 makes:PySem.W.makesIn K C=true
 init:PySem.W.findIn K (.ref C) "__init__" = ↑↑(.ref f)
 fn:PySem.W.isFn K (.ref f)=true
 kp:PySem.W.keepIn K (.ref C)=true
def PK(X:Cx)(kws:List Keyword)(t:TA):Prop :=
 ∀(pos:Pos) (pins:kl) (s:Shared) (σ:St) (H:Hp) (Q:kv->Hp->Prop),Inv X pins σ H s->t σ H Q->wpAny (model X.prog X.w) X.A (evalAll ((backToKw pos (keywordEach kws X.env)).map (·.2))) (AP X pins σ Q) X.xe s
section
variable {X:Cx} {CX:hY} {k:Nat} {f C:Addr} {fd:FuncData} {ps ks:h6} {sp:Sp} {E:XK} {x m:Str} {p pos apos kpos:Pos} {e o:Expr} {es:j0} {kws:List Keyword} {te ta:TE} {t tk:TA} {nm:ka}
def Ht:PK X [] tNil:=λ_ _ _ _ H Q I h=>wpAny_evalAll_nil ⟨[],H,I,.nil,h⟩
def Hu(D:PE X e te)(S:PK X kws t):PK X (⟨nm,e,kpos⟩::kws) (BM te t):=by
 intro pos pins s σ H Q I h;show wpAny _ _ (evalAll ((do let v <-eval e X.env;standAt pos;pure v)::(backToKw pos (keywordEach kws X.env)).map (·.2))) _ _ s;refine wpAny_evalAll_cons (au (bK (D pins s σ H _ I h) λu U V=>?_));obtain⟨x,H1,Y,Z,a⟩:=V;refine au (nz (cz ?_));exact bK (S pos pins U σ H1 _ Y a) λus s2 ⟨xs,H2,I2,r2,q2⟩=>⟨x::xs,H2,I2,.cons Z r2,q2⟩
structure OC (K:kf) (fd:FuncData) (ps ks:h6) (g:h7->h7->h7) (gV:kv->kv->kv):Prop where
 to:∀(s:Shared) (us ws:h7),K.In s.heap->(g us ws).length=ps.length->BindsTo s fd ⟨us,ks.zip ws⟩ (ps.zip (g us ws))
 rel:∀ {vs:kv} {us:h7} {zs:kv} {ws:h7},aN vs us->aN zs ws->aN (gV vs zs) (g us ws)
variable {g:h7->h7->h7} {gV:kv->kv->kv}
end
structure ut (N P:h6) (sc:Scope):Prop where
 kind:sc.kind=.function
 co:sc.isCoroutine=false
 gen:sc.isGenerator=false
 nd:N.Nodup
 pre:N.take P.length=P
 par:∀x∈P,sc.names.lookup x=some .local\/sc.names.lookup x=some .cell
 nofree:∀y∈sc.names,y.2≠.free
def BP{kindOf:Str->Option NameKind}{x:Str}:∀ {D:List (Str×Value)} {m:Str->h8},(∀v,(x,v)∉D)->bindL kindOf D m x=m x
 | [],_,_=>rfl | (n,v)::r,m,h=>by
   unfold bindL;rw[BP λw I=>h w (bg _ I)];split
   ·have:x≠n:=by rintro rfl;exact h v bi
    simp[this]
   ·rfl
def BQ{kindOf:Str->Option NameKind}{x:Str}:∀ {D:List (Str×Value)} {m:Str->h8},(∀v,(x,v)∉D)->bindC kindOf D m x=m x
 | [],_,_=>rfl | (n,v)::r,m,h=>by
   unfold bindC;rw[BQ λw I=>h w (bg _ I)];split
   ·rfl
   ·have:x≠n:=by rintro rfl;exact h v bi
    simp[this]
def BR{kindOf:Str->Option NameKind}{x:Str}{v:Value}:∀ {P:h6} {vs:h7} {i:Nat} {m:Str->h8},P.Nodup->P[i]?=↑x->vs[i]?=↑v->kindOf x=some .local ->
  bindL kindOf (P.zip vs) m x=↑v
 | [],_,_,_,_,h,_,_=>by simp at h |_::_,[],_,_,_,_,h,_=>by simp at h |p::P,w::vs,0,m,nd,h1,h2,hk=>by
   simp at h1 h2;subst h1;subst h2;show bindL kindOf ((p,w)::P.zip vs) m p=_;unfold bindL;rw[BP λv D=>(ci.mp nd).1 (li D).1,am hk];simp
 |p::P,w::vs,i+1,m,nd,h1,h2,hk=>by
   show bindL kindOf ((p,w)::P.zip vs) m x=_;unfold bindL;exact BR (i:=i) (ci.mp nd).2 (by simpa using h1) (by simpa using h2) hk
def BS{kindOf:Str->Option NameKind}{x:Str}{v:Value}:∀ {P:h6} {vs:h7} {i:Nat} {m:Str->h8},P.Nodup->P[i]?=↑x->vs[i]?=↑v->kindOf x≠some .local ->
  bindC kindOf (P.zip vs) m x=↑v
 | [],_,_,_,_,h,_,_=>by simp at h |_::_,[],_,_,_,_,h,_=>by simp at h |p::P,w::vs,0,m,nd,h1,h2,hk=>by
   simp at h1 h2;subst h1;subst h2;show bindC kindOf ((p,w)::P.zip vs) m p=_;unfold bindC;rw[BQ λv D=>(ci.mp nd).1 (li D).1,bw hk];simp
 |p::P,w::vs,i+1,m,nd,h1,h2,hk=>by
   show bindC kindOf ((p,w)::P.zip vs) m x=_;unfold bindC;exact BS (i:=i) (ci.mp nd).2 (by simpa using h1) (by simpa using h2) hk
def start(N:h6)(vs:kv):St:=vs.map some++List.replicate (N.length-vs.length) none
def cG(CX:hY)(P:Program)(w:World)(K:kf)(mg:Str->h8)(base:Heap)(N:h6)(qual:Str)(scope:Scope)(f:Addr)(cd:Value)(A:Around)(outer:i0)(s:Shared)(H:Hp)(E:XK):Cx where
 prog:=P
 w:=w
 K:=K
 mg:=mg
 base:=base
 A:=A.deeper (envOfC qual scope s.heap.objs.size f cd)
 N:=N
 s₀:=s
 H₀:=H
 env:=envOfC qual scope s.heap.objs.size f cd
 outer:=outer
 stack:=envOfC qual scope s.heap.objs.size f cd::outer
 ex:=[]
 calm:=true
 fn:=λ_=>true
 pn:=[]
 xe:=λe s'=>wpAny (model P w) (A.deeper (envOfC qual scope s.heap.objs.size f cd)) (leaving (envOfC qual scope s.heap.objs.size f cd) e) (λ_ D=>CX outer H s E e D) (λe' D=>CX outer H s E e' D) s'
def BU{sc:Scope}(h:sc.names.lookup x=some .cell):∃c,(cellsFrom n sc.names []).lookup x=↑c:=by
 have q:=nh sc.names n [] (.inl h);exact my.mp q
variable{qual:Str}{scope:Scope}
def BV{cd:Value}{Y:Shared}(S:ut N ps scope)(hd:A.handled=none)(D:gO P w K mg base A outer s H)(m:vs.length=ps.length)(r:aN vs us)(x:InCallC s s.heap.objs.size (bindL (envOfC qual scope s.heap.objs.size f cd).kindOf (ps.zip us) λ_=>none) (cellsFrom (s.heap.objs.size+1) scope.names []) (bindC (envOfC qual scope s.heap.objs.size f cd).kindOf (ps.zip us) λ_=>none) Y) :
  Inv (cG CX P w K mg base N qual scope f cd A outer s H E) [] (start N vs) H Y:=by
 have g:ps.length<=N.length:=by have:=congrArg List.length S.pre;rw[d8] at this;omega
 obtain⟨h1,tk,rfl,Z⟩:=x.done;have I:∀b:Addr,b∉(cG CX P w K mg base N qual scope f cd A outer s H E).ex:=λb z=>absurd (show b∈([]:ia) from z) ⋯;refine⟨⟨D.mod,S.kind,rfl,rfl,cw _,λy z c h1 h2=>?_,λy hy=>?_,λy c _ h=>?_,λ_=>hd,Around.frames_deeper D.frames,.inr ⟨rfl,rfl⟩,λb z=>absurd z (I b),D.bs,D.bsz,λb _ _=>I b,λb z=>absurd z (I b),D.funs,D.frf⟩,
  rfl,D.bare,Un.kept Z,⟨_,x.toInCall.ns,λi y v h1 h2 o=>?_⟩,λy c h=>⟨_,x.cell y c h⟩,D.hok.fresh (cw _),λy c h=>?_,λp U=>absurd (show p∈([]:kl) from U) ⋯,D.hok.kept Z,?_⟩
 ·exact name_of_addr x.apart (fm h1) (fm h2)
 ·have hy:scope.names.lookup y=some .cell\/scope.names.lookup y=some .free:=hy
  rcases hy with hy |hy
  ·exact BU hy
  ·exact absurd rfl (S.nofree _ (fm hy))
 ·exact lu (x.above y c (fm h))
 ·have hi:i<vs.length:=by
   unfold start at h2;by_cases hi:i<vs.length
   ·exact hi
   ·rw[cy (by simpa using hi)] at h2
    rw[List.getElem?_replicate] at h2;split at h2 <;> cases h2
  have j:vs[i]?=↑v:=by
   unfold start at h2;rw[ay (by simpa using hi),cb] at h2;cases e:vs[i]? with
   |none=>rw[e] at h2;cases h2
   |some a=>rw[e] at h2;cases h2;rfl
  obtain⟨u,d,l⟩:=r.get j;have U:ps[i]?=↑y:=by
   rw[<-S.pre,List.getElem?_take_of_lt (by omega)];exact h1
  have V:ps.Nodup:=by rw[<-S.pre];exact S.nd.sublist (List.take_sublist _ _)
  refine⟨u,l,?_⟩;rcases S.par y (bh U) with k |k
  ·exact .inl ⟨k,BR V U d k⟩
  ·obtain⟨c,e⟩:=BU (n:=s.heap.objs.size+1) k
   refine .inr ⟨.inl k,c,e,?_⟩;have q:=x.cell y c e;rw[BS V U d (by show scope.names.lookup y≠_;rw[k];decide)] at q;exact q
 ·exact D.hok.fresh (lu (x.above y c (fm h)))
 ·unfold start
  show _=N.length;rw[ax,ai,fy];omega
def Hv{D:Arguments}{p kV c z cdv ct oc:Value}{an od:Option Addr}{osl:Array h8}(F:K.lookup f=↑⟨oc,od,.func (PySem.W.fnOf name qual D body scope p kV c z an cdv ct),osl⟩)(i:PySem.W.codeIn K cdv qual=true)(S:ut N ps scope)(len:∀vs H Q E,sp vs H Q E->vs.length=ps.length)(Y:∀(A:Around) (outer:i0) (s:Shared) (H:Hp) (vs:kv) (Q:VK) (E:XK),bA k (A.deeper (envOfC qual scope s.heap.objs.size f cdv))->sp vs H Q E ->
   ∃t,gZ (cG CX P w K mg base N qual scope f cdv A outer s H E) body t/\t { nx:=λ_ H'=>Q .non H',rt:=Q } (start N vs) H) :
  cJ P w K mg base CX (k+1) f (PySem.W.fnOf name qual D body scope p kV c z an cdv ct) ps sp:=by
 refine⟨len,λA outer s H args us vs Q E j d G r g=>?_⟩;have L:=len _ _ _ _ g;have B:K.In s.heap:=d.mod.kin.keeps λb o e=>(d.bs b o e).1;have l:s.heap.NoLimit:=d.mod.nolimit.keeps λb o e=>(d.bs b o e).1;have Z:∀y∈ps.zip us,scope.names.lookup y.1=some .local\/(scope.names.lookup y.1=some .cell/\((cellsFrom (s.heap.objs.size+1) scope.names []).lookup y.1).isSome=true):=λ⟨n,v⟩ hy=>by
  rcases S.par n (li hy).1 with q |q
  ·exact .inl q
  ·exact .inr ⟨q,nh _ _ _ (.inl q)⟩
 refine codeAny_call_function j.depth (B _ _ F) rfl S.co S.gen rfl (PySem.W.codeRec_of B i) (G _ _ _ _ ?_);refine wpAny_newFunctionEnv_cells S.kind Z λenv M C x=>?_;subst M;refine⟨l.keeps x.toInCall.keep,codeAny_func ?_⟩;obtain⟨t,O,R⟩:=Y A outer s H vs Q E (j.deeper _) g;have I:Inv (cG CX P w K mg base N qual scope f cdv A outer s H E) [] (start N vs) H C:=BV S j.hd d L r x;refine ir (O [] C (start N vs) H _ I R) (λfl s' a=>?_) λe s' a=>a;have h:∀ {U:St} {H':Hp} {v:V} {u:Value},Inv (cG CX P w K mg base N qual scope f cdv A outer s H E) [] U H' s'->RelV v u->Q v H'->CE outer P w H s Q u s' :=
  λ{U H' v u} J m q=>⟨v,H',J.os,J.bare,J.base,J.hok,m,q⟩
 cases fl with
 |ret u =>
   obtain⟨v,U,H',J,m,q⟩:=a;exact h J m q
 |next =>
   obtain⟨U,H',J,q⟩:=a;exact h (v:=V.non) (u:=Value.none) J rfl q
 |brk =>
   obtain⟨_,_,_,q⟩:=a;exact False.elim q
 |cont =>
   obtain⟨_,_,_,q⟩:=a;exact False.elim q
def rB(r:kv->Hp->VK->Prop)(t:TA):TE:=λσ H Q=>t σ H λvs H1=>r vs H1 Q
variable{r:kv->Hp->VK->Prop}{id:String}
def mu(U:q9 X (.builtin id) r)(V:Gl X x)(Y:X.mg x=none)(Z:bootBuiltins x=↑(.builtin id))(a:PA X (e::es) t)(b:x ≠ "__name__":=by decide)(D:(x==("__debug__" : Str))=false:=by decide)(c:‹starEach (e::es) X.env=(false,eval e X.env)::starEach es X.env›)(S:‹(backTo pos (starEach es X.env)).any (·.1)=false›):PE X (.Call (.Name x p) (e::es) [] pos) (rB r t):=by
 intro pins s σ H Q I h;refine iu (xr I V Y Z ?_ b D);exact PyProof.Rows.callWith_builtin1 (bK (a pos pins s σ H _ I h) λus s1 ⟨vs,H1,I1,r1,q1⟩=>U pins s1 σ H1 vs us Q I1 r1 q1) c S
variable{T:String}
def wE(U:q9 X (.type T) r)(V:Gl X x)(Y:X.mg x=none)(Z:bootBuiltins x=↑(.type T))(a:PA X (e::es) t)(b:x ≠ "__name__":=by decide)(D:(x==("__debug__" : Str))=false:=by decide)(c:‹starEach (e::es) X.env=(false,eval e X.env)::starEach es X.env›)(S:‹(backTo pos (starEach es X.env)).any (·.1)=false›):PE X (.Call (.Name x p) (e::es) [] pos) (rB r t):=by
 intro pins s σ H Q I h;refine iu (xr I V Y Z ?_ b D);exact ib (bK (a pos pins s σ H _ I h) λus s1 ⟨vs,H1,I1,r1,q1⟩=>U pins s1 σ H1 vs us Q I1 r1 q1) c S
end L2
namespace HT
open PySem PyProof.Rows
section
open PySem.SeqAt
open PySem.AutoSeq1 (wpAny_loadPart')
open PySem.MeetsSeq PySem.MeetsSeq2 PySem.MeetsSeq3
end
def sIx(n d:Nat):kb->Nat
 |none=>d |some v=>if v<0 then(v+(n:Int)).toNat else min v.toNat n
def sIx_none(n d:Nat):sIx n d none=d:=rfl
def sIx_nat(n d k:Nat):sIx n d ↑(k:Int)=min k n:=by
 show(if (k:Int)<0 then((k:Int)+(n:Int)).toNat else min (k:Int).toNat n)=min k n;rw[bw (by omega),iy]
end HT
namespace L2
open PySem PySem.Spec PyProof.Rows
abbrev TO:=St->Hp->(kb->Hp->Prop)->Prop
def PO(X:Cx)(e:Option Expr)(t:TO):Prop :=
 ∀(pins:kl) (s:Shared) (σ:St) (H:Hp) (Q:kb->Hp->Prop),Inv X pins σ H s->t σ H Q ->
  wpAny (model X.prog X.w) X.A (evalPart e X.env) (λu s'=>∃o H',Inv X pins σ H' s'/\IsPart u o/\Q o H') X.xe s
def Hw:TO:=λ_ H Q=>Q none H
def Hx(t:TE):TO:=λσ H Q=>t σ H λx H1=>∃i,x=.int i/\Q ↑i H1
def Hy{ns:ik}:∀ {us:h7},aN (ns.map V.int) us->IntsAre us ns:=by
 induction ns with
 |nil=>intro us r;rw[dw] at r;cases r;exact .nil
 |cons n ns ih =>
   intro us r;rw[b9] at r;cases r with
   |cons r1 r2 =>
     obtain⟨t,e⟩:=r1;subst e;exact .cons n t (ih r2)
variable{X:Cx}
def Hz:PO X none Hw:=by
 intro pins s σ H Q I h;rw[evalPart_none];exact cz ⟨none,H,I,.none,h⟩
variable{e:Expr}{te:TE}
def H5(h:PE X e te):PO X ↑e (Hx te):=by
 intro pins s σ H Q I D;rw[evalPart_some];refine bK (h pins s σ H _ I D) λu Z S=>?_;obtain⟨x,H1,U,V,Y⟩:=S;obtain⟨i,rfl,q⟩:=Y;obtain⟨t,rfl⟩:=V;exact⟨↑i,H1,U,.int i t,q⟩
variable{lo hi:Option Expr}
def BW(X:Cx)(r:V->kb->kb->Hp->VK->Prop):Prop :=
 ∀(pins:kl) (s:Shared) (σ:St) (H:Hp) (x:V) (v D I:Value) (lo hi:kb) (sl:Addr) (Q:VK),Inv X pins σ H s->RelV x v->s.heap.IsSliceOf sl D I .none->IsPart D lo->IsPart I hi->r x lo hi H Q ->
  ∃T id,typeLookup (.type T) "__getitem__" = pure ↑(.builtin id)/\s.TypeIs v T/\wpAny (model X.prog X.w) X.A (getItem v (.ref sl)) (EP X pins σ Q) X.xe s
def HA(r:V->kb->kb->Hp->VK->Prop)(te:TE)(tl th:TO):TE:=λσ H Q=>te σ H λx H1=>tl σ H1 λl H2=>th σ H2 λu D=>r x l u D Q
variable{r:R2}{tl th:TO}{pos p2:Pos}
def HB{r:V->kb->kb->Hp->VK->Prop}(a:BW X r)(c:PE X e te)(d:PO X lo tl)(f:PO X hi th):PE X (.Subscript e (.Slice lo hi none p2) pos) (HA r te tl th):=by
 intro pins s σ H Q I h;refine Subscript_ (bK (c pins s σ H _ I h) λv g S=>?_);obtain⟨x,H1,i,j,k⟩:=S;refine wpAny_Slice (bK (d pins g σ H1 _ i k) λU s2 S=>?_);obtain⟨l,H2,m,pl,n⟩:=S;refine bK (f pins s2 σ H2 _ m n) λY D S=>?_;obtain⟨u,Z,o,p,t⟩:=S;rw[evalPart_none];refine cz ?_;have y:Inv X pins σ Z { D with heap:=D.heap.push { cls:=.type "slice",data:=.fields #[U,Y,.none] } }:=o.kept (t':=D.toks) λb C q=>aq _ q;obtain⟨T,id,hT,z,B⟩:=a pins { D with heap:=D.heap.push { cls:=.type "slice",data:=.fields #[U,Y,.none] } } σ Z x v U Y l u D.heap.objs.size Q y j (Heap.IsSliceOf.new ..) pl p t;show wpAny (model X.prog X.w) X.A (subscriptTail e (.Slice lo hi none p2) v (.ref D.heap.objs.size)) (EP X pins σ Q) X.xe { D with heap:=D.heap.push { cls:=.type "slice",data:=.fields #[U,Y,.none] } };exact tail_any (ops:=[.ref D.heap.objs.size,v]) z hT B (by with_unfolding_all rfl)
def iK(xs:kv)(lo hi:kb):kv:=(xs.drop (HT.sIx xs.length 0 lo)).take (HT.sIx xs.length xs.length hi-HT.sIx xs.length 0 lo)
def HD(xs:kv)(lo hi:kb):(iK xs lo hi).length<=xs.length:=by
 unfold iK;rw[d8,fu];omega
def eI(n:Nat)(i:Int):Option Nat:=if 0<=i then(if i<n then ↑i.toNat else none) else if -(n:Int)<=i then ↑(i+n).toNat else none
variable{α:Type}
def bG(xs:List α)(i:Int):Option α:=(eI xs.length i).bind λj=>xs[j]?
variable{n j:Nat}{i:Int}
def wF(h:eI n i=↑j):seqIndex? i n=↑j/\j<n/\-(n:Int)<=i/\i<n:=by
 unfold eI at h;by_cases D:0<=i
 ·rw[am D] at h
  by_cases h1:i<n
  ·rw[am h1] at h
   have e:i.toNat=j:=b8 h;exact⟨by rw[seqIndex_of D h1,e],by omega,by omega,h1⟩
  ·rw[bw h1] at h;cases h
 ·rw[bw D] at h
  by_cases h1:-(n:Int)<=i
  ·rw[am h1] at h
   have e:(i+n).toNat=j:=b8 h;exact⟨by rw[seqIndex_neg (by omega) h1,e],by omega,h1,by omega⟩
  ·rw[bw h1] at h;cases h
def wG{xs:List α}{v:α}(h:bG xs i=↑v):∃j,seqIndex? i xs.length=↑j/\xs[j]?=↑v/\j<xs.length/\-(xs.length:Int)<=i/\i<xs.length:=by
 unfold bG at h;cases e:eI xs.length i with
 |none=>rw[e] at h;cases h
 |some j =>
   rw[e] at h;obtain⟨h1,h2,D,I⟩:=wF e;exact⟨j,h1,h,h2,D,I⟩
def BX{xs:List α}{v:α}(h:xs[j]?=↑v):bG xs (j:Int)=↑v:=by
 have D:j<xs.length:=(aj.mp h).1;have e:eI xs.length (j:Int)=↑j:=by
  unfold eI;rw[am (by omega),am (by omega)];simp
 unfold bG;rw[e];exact h
def HE(xs:List α)(v:α):bG (xs++[v]) (-1)=↑v:=by
 have D:(xs++[v]).length=xs.length+1:=by simp
 have e:eI (xs++[v]).length (-1)=↑xs.length:=by
  unfold eI;rw[D,bw (by decide),am (by omega)];congr 1;omega
 unfold bG;rw[e];show(xs++[v])[xs.length]?=↑v;simp
def zb(b:Expr):Prop:=∀o i,subscripted b false o i=operate [o,i] (getItem o i)
def jR(X:Cx)(r:R2):Prop :=
 ∀(value D:Expr) (pins:kl) (s:Shared) (σ:St) (H:Hp) (x y:V) (v u:Value) (Q:VK),Inv X pins σ H s->RelV x v->RelV y u->r x y H Q ->
  subscripted D false v u=operate [v,u] (getItem v u)->wpAny (model X.prog X.w) X.A (subscriptTail value D v u) (EP X pins σ Q) X.xe s
def BY(X:Cx)(id:String)(r:V->kv->Hp->VK->Prop):Prop :=
 ∀(pins:kl) (s:Shared) (σ:St) (H:Hp) (x:V) (xs:kv) (v:Value) (us:h7) (Q:VK),Inv X pins σ H s->RelV x v->aN xs us->r x xs H Q ->
  wpAny (model X.prog X.w) X.A (call (.builtin id) (v::us)) (EP X pins σ Q) X.xe s
def jR.or{S:R2}(h:jR X r)(h':jR X S):jR X (λx y H Q=>r x y H Q\/S x y H Q):=by
 intro value D pins s σ H x y v u Q I U V q Y;rcases q with q |q
 ·exact h value D pins s σ H x y v u Q I U V q Y
 ·exact h' value D pins s σ H x y v u Q I U V q Y
variable{a b:Expr}{ta tb:TE}
def nT(D:jR X r)(S:PE X a ta)(U:PE X b tb)(V:zb b):PE X (.Subscript a b pos) (nP r ta tb):=by
 intro pins s σ H Q I h;exact Subscript_ (kU S U I h λv u s2 x y H2 Y Z c q=>D a b pins s2 σ H2 x y v u Q Y Z c q (V _ _))
def nU(K:kf):R2:=λx y H Q=>∃p xs i v,x=.ref p/\y=.int i/\dH K H p xs/\bG xs i=↑v/\Q v H
def nV(K:kf):R2:=λx y H Q=>∃p xs i v,x=.ref p/\y=.int i/\eG K H p xs/\bG xs i=↑v/\Q v H
def nX:R2:=λx y H Q=>∃z i c,x=.str z/\y=.int i/\z.length<=sizeLine/\bG z.cps.toList i=↑c/\Q (.str ⟨#[c]⟩) H
def rC:jR X (nU X.K):=by
 intro value S pins s σ H x y v u Q I b c h Y;obtain⟨p,xs,i,z,rfl,rfl,d,e,q⟩:=h;cases b;obtain⟨t,rfl⟩:=c;obtain⟨its,r,pl,l⟩:=I.list d;obtain⟨j,h1,h2,m,f,g⟩:=wG e;obtain⟨w,Z,U⟩:=r.get h2;have k:=r.length;have n:=l_;have D:EP X pins σ Q w s:=⟨z,H,I,U,q⟩;by_cases a:0<=i
 ·have V:i.toNat=j:=by
   rw[seqIndex_of a g] at h1;exact b8 h1
  exact item_listR pl.isList a (by omega) (by rw[V];simpa using Z) D Y
 ·have V:(i+(its.toArray.size:Int)).toNat=j:=by
   rw[seqIndex_neg (by omega) f] at h1;rw[bz,<-k];exact b8 h1
  exact subscriptTail_builtinR (x:=w) pl.isList.typeIs slot_list_getitem.lookup
   (wpAny_getItem_list_neg (Q:=λr s'=>r=w/\EP X pins σ Q r s') pl.isList (by omega) (by rw[bz] <;> omega) (by omega) (by rw[V];simpa using Z) ⟨rfl,D⟩) Y
def HF:jR X (nV X.K):=by
 intro value D pins s σ H x y v u Q I V Y h Z;obtain⟨p,xs,i,z,rfl,rfl,a,b,q⟩:=h;cases V;obtain⟨t,rfl⟩:=Y;obtain⟨its,r,pl,e⟩:=I.tuple a;obtain⟨j,h1,h2,f,g,k⟩:=wG b;obtain⟨w,c,S⟩:=r.get h2;have d:=r.length;have l:=l_;have U:EP X pins σ Q w s:=⟨z,H,I,S,q⟩;exact subscriptTail_builtinR (x:=w) pl.typeIs slot_tuple_getitem.lookup
  (getItem_tuple (j:=j) (Q:=λr s'=>r=w/\EP X pins σ Q r s') pl (by omega) (by omega) (by rw[bz,<-d];exact h1) (by simpa using c) ⟨rfl,U⟩) Z
def HG:jR X nX:=by
 intro value D pins s σ H x y v u Q I S U h V;obtain⟨z,i,c,rfl,rfl,f,Y,q⟩:=h;obtain⟨t,rfl⟩:=S;obtain⟨t',rfl⟩:=U;obtain⟨j,h1,h2,g,Z,a⟩:=wG Y;have b:z.cps.toList.length=z.length:=by simp[Str.length]
 rw[b] at h1 Z a;have k:=l_;exact tail_any (typeIs_str s z t) slot_str_getitem.lookup (getItem_str (c:=c) (by
  have d:decide (i < -(2 ^ 63:Int))=false:=eg (by omega);have e:decide (i >= 2 ^ 63)=false:=eg (by omega);rw[d,e,Bool.or_false]) (by rw[h1];simpa using h2) ⟨.str ⟨#[c]⟩,H,I.tok _,⟨_,rfl⟩,q⟩) V
def BZ(K:kf):R2:=λx y H Q=>nU K x y H Q\/nV K x y H Q\/nX x y H Q
def B_:jR X (BZ X.K):=rC.or (HF.or HG)
def HH(its:h7)(n j:Nat)(u:Value):Obj.mapSeq (·.setIfInBounds j u) { cls:=.type "list",data:=.seq its.toArray n }={ cls:=.type "list",data:=.seq (its.set j u).toArray n }:=by
 simp[Obj.mapSeq]
def Inv.lst{pins:kl}{σ:St}{H:Hp}{s:Shared}{p:Addr}{xs:kv}(I:Inv X pins σ H s)(h:H p=↑(.lst xs)) :
  ∃(its:h7) (n:Nat),aN xs its/\s.heap.get? p=some { cls:=.type "list",data:=.seq its.toArray n }/\xs.length<=sizeLine:=by
 obtain⟨z,its,n,r,e⟩:=I.hok p _ h;exact⟨its,n,r,e,z⟩
variable{pins:kl}{σ:St}{H:Hp}{s:Shared}{xs ys:kv}{its its':h7}
def Inv.lstUpd{p:Addr}{D:Nat}{f:Obj->Obj}(I:Inv X pins σ H s)(h:H p=↑(.lst xs))(U:s.heap.get? p=some { cls:=.type "list",data:=.seq its.toArray n })(S:f { cls:=.type "list",data:=.seq its.toArray n }={ cls:=.type "list",data:=.seq its'.toArray D })(r:aN ys its')(V:ys.length<=sizeLine)(t:Nat) :
  Inv X pins σ (aX H p (.lst ys)) { s with heap:=s.heap.update p f,toks:=t }:=by
 have e:(s.heap.update p f).get? p=some { cls:=.type "list",data:=.seq its'.toArray D }:=by
  rw[gv f U (by rw[S] <;> rfl),S]
 refine I.write (x:=p) (e:=p) (by rw[h];trivial) (.inl rfl) (λb u Y q=>(df _ _ (Ne.symm Y)).trans q) ⟨_,e⟩ ?_;exact⟨V,its',D,r,e⟩
def Ca:V->V->V->Hp->(Hp->Prop)->Prop:=λo i v H Q=>∃p xs k j,o=.ref p/\i=.int k/\H p=↑(.lst xs)/\eI xs.length k=↑j/\Q (aX H p (.lst (xs.set j v)))
def mv:kT X Ca:=by
 intro pins s σ H o i v g l u Q I ro c d h;obtain⟨p,xs,k,j,rfl,rfl,V,e,q⟩:=h;cases ro;obtain⟨t,rfl⟩:=c;obtain⟨its,n,r,D,f⟩:=I.lst V;obtain⟨h1,h2,Y,Z⟩:=wF e;have S:=r.length;have m:=l_;have a:Inv X pins σ (aX H p (.lst (xs.set j v))) { s with heap:=s.heap.update p (Obj.mapSeq (·.setIfInBounds j u)) } :=
  I.lstUpd V D (HH its n j u) (r.set d j) (by rw[d6];exact f) s.toks
 by_cases b:0<=k
 ·have U:k.toNat=j:=by
   rw[seqIndex_of b Z] at h1;exact b8 h1
  exact PySem.W.ki_setAt D b (by omega) (by rw[bz,<-S];exact Z) (by rw[U];exact⟨_,a,q⟩)
 ·have U:(k+(its.toArray.size:Int)).toNat=j:=by
   rw[seqIndex_neg (by omega) Y] at h1;rw[bz,<-S];exact b8 h1
  exact PySem.W.ki_setBack D (by omega) (by rw[bz,<-S];exact Y) (by omega) (by rw[U];exact⟨_,a,q⟩)
def HJ(lo hi:kb)(n:Nat):(sliceBounds lo hi none n).1=((HT.sIx n 0 lo:Nat):Int)/\(sliceBounds lo hi none n).2.1=((HT.sIx n n hi:Nat):Int)/\(sliceBounds lo hi none n).2.2=1:=by
 refine⟨?_,?_,rfl⟩
 ·cases lo with
  |none=>simp[sliceBounds,HT.sIx] |some i =>
    simp only[sliceBounds,HT.sIx,Option.getD_none,show(1:Int) > 0 by decide,dm];by_cases h:i<0
    ·simp only[h,dm] <;> omega
    ·simp only[h,ff] <;> omega
 ·cases hi with
  |none=>simp[sliceBounds,HT.sIx] |some i =>
    simp only[sliceBounds,HT.sIx,Option.getD_none,show(1:Int) > 0 by decide,dm];by_cases h:i<0
    ·simp only[h,dm] <;> omega
    ·simp only[h,ff] <;> omega
def HK(its:h7)(lo hi:kb):slicePick its.toArray lo hi none=((its.drop (HT.sIx its.length 0 lo)).take (HT.sIx its.length its.length hi-HT.sIx its.length 0 lo)).toArray:=by
 obtain⟨h1,h2,D⟩:=HJ lo hi its.toArray.size;unfold slicePick;rw[h1,h2,D];simp only[sliceRange_one,pick_run,bz] <;> rfl
def wH(K:kf):V->kb->kb->Hp->VK->Prop:=λx lo hi H Q=>∃a xs,x=.ref a/\dH K H a xs/\∀p,H p=none->Q (.ref p) (aX H p (.lst (iK xs lo hi)))
def HM:BW X (wH X.K):=by
 intro pins s σ H x v d e lo hi sl Q I U V pl Y h;obtain⟨a,xs,rfl,Z,q⟩:=h;cases U;obtain⟨its,r,S,c⟩:=I.list Z;have D:=r.length;refine⟨"list",_,slot_list_getitem.lookup,S.isList.typeIs,?_⟩;refine wpAny_getItem_list_slice S.isList V pl Y .none ⋯ ?_ (by rw[bz] <;> omega);rw[HK,<-D];refine⟨.ref s.heap.objs.size,_,I.laid (t':=s.toks) (o:=.lst (iK xs lo hi)) (λb f q=>aq _ q) (cw _) ?_,rfl,q _ (I.hok.fresh (cw _))⟩;exact⟨d7 (HD xs lo hi) c,_,0,(r.drop (HT.sIx xs.length 0 lo)).take (HT.sIx xs.length xs.length hi-HT.sIx xs.length 0 lo),cx _ rfl⟩
def wI:q9 X (.builtin "len") (λxs H Q=>∃p ys,xs=[.ref p]/\(dH X.K H p ys\/eG X.K H p ys)/\Q ↥ys.length H):=by
 intro pins s σ H xs us Q I r h;obtain⟨p,ys,rfl,hq,q⟩:=h;obtain⟨u,rfl,U⟩:=xn r;cases U;have Y:=l_;rcases hq with hq |hq
 ·obtain⟨its,S,pl,V⟩:=I.list hq
  have D:=S.length;exact Calls.call_len_list pl.isList (by simp only[bz] <;> omega) ⟨.int ys.length,H,I.tok _,⟨s.toks+1,by rw[bz,D]⟩,q⟩
 ·obtain⟨its,S,pl,V⟩:=I.tuple hq
  have D:=S.length;exact len_tuple pl (by simp only[bz] <;> omega) ⟨.int ys.length,H,I.tok _,⟨s.toks+1,by rw[bz,D]⟩,q⟩
def Cb:q9 X (.type "list") (λxs H Q=>∃p ys,xs=[.ref p]/\(dH X.K H p ys\/eG X.K H p ys)/\∀l,H l=none->Q (.ref l) (aX H l (.lst ys))):=by
 intro pins s σ H xs us Q I r h;obtain⟨p,ys,rfl,hq,q⟩:=h;obtain⟨u,rfl,c⟩:=xn r;cases c;have U:∀(its:h7),aN ys its->ys.length<=sizeLine->∀(h':Heap) (D:Nat),(∀b o',s.heap.get? b=↑o'->h'.get? b=↑o') ->
   h'.get? s.heap.objs.size=some { cls:=.type "list",dict:=none,data:=.seq its.toArray D,slots:=#[] }->EP X pins σ Q (.ref s.heap.objs.size) { s with heap:=h' }:=λits S V h' D kp e =>
  ⟨.ref s.heap.objs.size,_,I.laid (t':=s.toks) kp (cw _) (show bQ X.prog X.w _ h' _ (.lst ys) from⟨V,its,D,S,e⟩),rfl,q _ (I.hok.fresh (cw _))⟩
 rcases hq with hq |hq
 ·obtain⟨its,S,pl,V⟩:=I.list hq
  have Y:=S.length;obtain⟨o,Z,a,n,hd⟩:=pl.isList;exact call_list_seq p (.inl rfl) Z a hd (λh' D kp e=>U its S V h' D kp e) (by simp only[bz] <;> omega)
 ·obtain⟨its,S,pl,V⟩:=I.tuple hq
  have Y:=S.length;obtain⟨o,Z,a,n,hd⟩:=pl;exact call_list_seq p (.inr rfl) Z a hd (λh' D kp e=>U its S V h' D kp e) (by simp only[bz] <;> omega)
def HN:q9 X (.type "tuple") (λxs H Q=>∃p ys,xs=[.ref p]/\((dH X.K H p ys/\∀l,H l=none->Q (.ref l) (aX H l (.tup ys)))\/(eG X.K H p ys/\Q (.ref p) H))):=by
 intro pins s σ H xs us Q I r h;obtain⟨p,ys,rfl,h⟩:=h;obtain⟨u,rfl,Z⟩:=xn r;cases Z;rcases h with⟨D,q⟩ | ⟨D,q⟩
 ·obtain⟨its,S,pl,U⟩:=I.list D
  have V:=S.length;refine call_tuple_list pl.isList (λh' kp=>?_) (by simp only[bz] <;> omega);have Y:Inv X pins σ H { s with heap:=h' }:=I.kept (t':=s.toks) kp;have a:Inv X pins σ (aX H h'.objs.size (.tup ys)) { s with heap:=h'.push { cls:=.type "tuple",data:=.seq its.toArray } } :=
   Y.laid (t':=s.toks) (λb o e=>aq _ e) (cw _) (show bQ X.prog X.w _ _ _ (.tup ys) from⟨U,its,S,IsTup.new _ _⟩)
  exact⟨.ref h'.objs.size,_,a,rfl,q _ (Y.hok.fresh (cw _))⟩
 ·obtain⟨its,S,pl,U⟩:=I.tuple D
  exact call_tuple_same pl ⟨.ref p,H,I,rfl,q⟩
def wJ(K:kf)(T:String)(x:V)(H:Hp):Prop:=match x with
 | .str _=>T = "str" | .int _=>T = "int" | .ref p=>(T = "list"/\∃xs,dH K H p xs)\/(T = "tuple"/\∃o,K.lookup p=↑o/\o.cls=.type "tuple"/\o.dict=none) \/
    (T = "dict"/\((∃kvs,H p=↑(.dK kvs))\/∃kvs,H p=↑(.dT kvs)))\/(T = "set"/\∃S n,H p=↑(.set S n))
 |_=>False
variable{T:String}{x:V}
def Cc{v:Value}(I:Inv X pins σ H s)(r:RelV x v)(ty:wJ X.K T x H) :
  s.TypeIs v T/\∀a,v=.ref a->∃V,s.heap.get? a=↑V/\V.dict=none:=by
 cases x with
 |str z =>
   obtain⟨t,rfl⟩:=r;cases (show T = "str" from ty);exact⟨typeIs_str s z t,λ_ e=>nomatch e⟩
 |int i =>
   obtain⟨t,rfl⟩:=r;cases (show T = "int" from ty);exact⟨typeIs_int s i t,λ_ e=>nomatch e⟩
 |ref p =>
   cases r;rcases ty with⟨rfl,xs,Y⟩ | ⟨rfl,o,D,hc,hd⟩ | ⟨rfl,D⟩ | ⟨rfl,S,n,D⟩
   ·obtain⟨its,_,pl,_⟩:=I.list Y
    refine⟨pl.isList.typeIs,λa e=>?_⟩;cases e;obtain⟨o,n,e,c,hd,_⟩:=pl;exact⟨o,e,hd⟩
   ·refine⟨⟨o,I.kIn p o D,hc⟩,λa e=>?_⟩
    cases e;exact⟨o,I.kIn _ o D,hd⟩
   ·have z:∃o,s.heap.get? p=↑o/\o.ExactDict:=by
     rcases D with⟨kvs,D⟩ | ⟨kvs,D⟩
     ·obtain⟨_,_,_,_,o,_,_,e,ex,_⟩:=I.hok p _ D
      exact⟨o,e,ex⟩
     ·obtain⟨_,_,_,_,o,_,_,e,ex,_⟩:=I.hok p _ D
      exact⟨o,e,ex⟩
    obtain⟨o,e,ex⟩:=z;refine⟨⟨o,e,ex.1⟩,λa U=>?_⟩;cases U;exact⟨o,e,ex.2.1⟩
   ·obtain⟨o,_,_,_,e,ex,_⟩:=I.hok p _ D
    refine⟨⟨o,e,ex.1⟩,λa U=>?_⟩;cases U;exact⟨o,e,ex.2.1⟩
 |_=>exact False.elim ty
def wK(K:kf)(T:String)(r:V->kv->Hp->VK->Prop)(to:TE):TE:=λσ H Q=>to σ H λx H1=>wJ K T x H1/\r x [] H1 Q
def HQ(K:kf)(T:String)(r:V->kv->Hp->VK->Prop)(to:TE)(t:TA):TE:=λσ H Q=>to σ H λx H1=>wJ K T x H1/\t σ H1 λxs H2=>r x xs H2 Q
variable{r:V->kv->Hp->VK->Prop}{o:Expr}{to:TE}{name:Str}{apos cpos:Pos}{id:String}
def Cd(a:PlainAttrs T)(U:Slot T name id)(V:typeOf (.builtin id)=pure (.type "method_descriptor"))(b:BY X id r)(c:PE X o to)(D:‹attributeBase o name X.env (eval o X.env)=eval o X.env›)(S:‹(apos.endLine==cpos.line)=true›):PE X (.Call (.Attribute o name apos) [] [] cpos) (wK X.K T r to):=by
 intro pins s σ H Q I h;refine wpAny_Call_method0_late D S (bK (c pins s σ H _ I h) λv d e=>?_);obtain⟨x,H1,Y,Z,ty,f⟩:=e;obtain⟨h1,h2⟩:=Cc Y Z ty;exact⟨T,id,a,U,V,h1,h2,Calls.callWith_builtin rfl (PySem.evalArgs_none (b pins d σ H1 x [] v [] Q Y Z .nil f))⟩
variable{es:j0}{t:TA}
def rD(c:PlainAttrs T)(V:Slot T name id)(Z:typeOf (.builtin id)=pure (.type "method_descriptor"))(d:BY X id r)(f:PE X o to)(g:PA X (e::es) t)(S:‹attributeBase o name X.env (eval o X.env)=eval o X.env›)(Y:((backTo cpos (starEach (e::es) X.env)).all (λx=>!x.1) && (backToKw cpos (keywordEach [] X.env)).all (λx=>x.1.isSome)
   && decide ((e::es).length+([]:List Keyword).length+(if ([]:List Keyword).isEmpty then 0 else 1)<30))=true:=by rfl)(U:‹(apos.endLine==cpos.line)=true›)(i:‹starEach (e::es) X.env=(false,eval e X.env)::starEach es X.env›)(D:‹(backTo cpos (starEach es X.env)).any (·.1)=false›) :
  PE X (.Call (.Attribute o name apos) (e::es) [] cpos) (HQ X.K T r to t):=by
 intro pins s σ H Q I h;refine wpAny_Call_method_late S Y U rfl (bK (f pins s σ H _ I h) λv j k=>?_);obtain⟨x,H1,a,b,ty,l⟩:=k;obtain⟨h1,h2⟩:=Cc a b ty;refine⟨T,id,c,V,Z,h1,h2,?_⟩;have hA:=g cpos pins j σ H1 _ a l;rw[i] at hA ⊢;refine Calls.callWith_builtin (by show(false || (backTo cpos (starEach es X.env)).any (·.1))=false;rw[D] <;> rfl) (Calls.evalArgs_plain ?_);exact bK hA λus s2 ⟨vs,H2,I2,r2,q2⟩=>d pins s2 σ H2 x vs v us Q I2 b r2 q2
def rE(X:Cx)(id:String)(r:V->kv->Hp->VK->Prop):Prop :=
 ∀(pins:kl) (s:Shared) (σ:St) (H:Hp) (x:V) (xs:kv) (v:Value) (us:h7) (Q:VK),Inv X pins σ H s->RelV x v->aN xs us->r x xs H Q ->
  wpAny (model X.prog X.w) X.A (call (.builtin id) (v::us)) (EP X pins σ Q) X.xe s
def wL:kv->h7->Prop
 | [],us=>us=[] |x::xs,us=>∃u t,us=u::t/\RelV x u/\aN xs t
variable{us:h7}
def aN.inv(h:aN xs us):wL xs us:=by
 cases h with
 |nil=>exact rfl |cons r t=>exact⟨_,_,rfl,r,t⟩
def aN.one(h:aN [x] us):∃u,us=[u]/\RelV x u:=by
 obtain⟨u,t,e,r,q⟩:=h.inv;exact⟨u,(show t=[] from q.inv) ▸ e,r⟩
def aN.two{y:V}(h:aN [x,y] us):∃u v,us=[u,v]/\RelV x u/\RelV y v:=by
 obtain⟨u,t,e,r,q⟩:=h.inv;obtain⟨v,f,q⟩:=q.one;exact⟨u,v,f ▸ e,r,q⟩
def aN.zero:∀ {us:h7},aN [] us->us=[]
 |_,.nil=>rfl
def aN.dropLast(h:aN xs us):aN xs.dropLast us.dropLast:=by
 induction h with
 |nil=>exact .nil |cons r t ih =>
   cases t with
   |nil=>exact .nil |cons q t'=>exact .cons r ih
def aN.rep{xs:kv}{us:h7}(h:aN xs us):∀k:Nat,aN (List.replicate k xs).flatten (List.replicate k us).flatten
 |0=>.nil |k+1=>by
   rw[js,js,eh,eh];exact aN.append h (aN.rep h k)
def HR(l:List α):l.eraseIdx (l.length-1)=l.dropLast:=by
 induction l with
 |nil=>rfl |cons a r ih =>
   cases r with
   |nil=>rfl |cons b r =>
     have e:(a::b::r).length-1=((b::r).length-1)+1:=by
      have h1:(a::b::r).length=r.length+2:=rfl;have h2:(b::r).length=r.length+1:=rfl;omega
     rw[e,List.eraseIdx_cons_succ,ih];all_goals rfl
def Ce(its:h7):∀(k:Nat) (D:h7),
  List.foldl (λI x2=>I++x2) D.toArray (List.replicate k its.toArray)=(D++(List.replicate k its).flatten).toArray
 |0,D=>by simp |k+1,D=>by
   have e:D.toArray++its.toArray=(D++its).toArray:=by simp
   have S:(D++its)++(List.replicate k its).flatten=D++(List.replicate (k+1) its).flatten:=by
    rw[js,eh,ek]
   rw[<-S,<-Ce its k (D++its),<-e,js,List.foldl_cons]
variable{t':Nat}{l:Addr}
def Inv.lset{f:kn->kn}(I:Inv X pins σ H s)(D:H l=↑(.lst xs))(e:s.heap.get? l=some { cls:=.type "list",data:=.seq its.toArray n })(S:f its.toArray=its'.toArray)(U:aN ys its')(V:ys.length<=sizeLine) :
  Inv X pins σ (aX H l (.lst ys)) { s with heap:=s.heap.update l (Obj.mapSeq f),toks:=t' }:=by
 have q:=PySem.IsL.update e f;rw[S] at q;refine I.write (x:=l) (e:=l) (by rw[D];exact trivial) (.inl rfl) (λa u Y Z=>(df s.heap (Obj.mapSeq f) (Ne.symm Y)).trans Z) ⟨_,q⟩ ?_;exact⟨V,its',_,U,q⟩
def Inv.lnew(I:Inv X pins σ H s)(D:aN ys its)(S:ys.length<=sizeLine) :
  Inv X pins σ (aX H s.heap.objs.size (.lst ys)) { s with heap:=s.heap.push { cls:=.type "list",data:=.seq its.toArray },toks:=t' } :=
 I.laid (λ_ _ q=>aq _ q) (cw _) ⟨S,its,0,D,cx _ rfl⟩
def Inv.fresh(I:Inv X pins σ H s):H s.heap.objs.size=none:=I.hok.fresh (cw _)
def Inv.lstM(I:Inv X pins σ H s)(D:H l=↑(.lst xs)):xs.length<=sizeLine/\∃(its:h7) (n:Nat),aN xs its/\xs.length=its.length/\s.heap.get? l=some { cls:=.type "list",data:=.seq its.toArray n }:=by
 obtain⟨z,its,n,r,e⟩:=I.hok l _ D;exact⟨z,its,n,r,r.length,e⟩
def Cf(h:n<=sizeLine):Builtin.List.listTooLong n=false:=by
 unfold Builtin.List.listTooLong;exact eg (by omega)
def HS:V->kv->Hp->VK->Prop:=λx vs H Q=>∃l xs y,x=.ref l/\vs=[y]/\H l=↑(.lst xs)/\xs.length<sizeLine/\Q .non (aX H l (.lst (xs++[y])))
theorem Cg:rE X "list.append" HS:=by
 intro pins s σ H x vs v us Q I S U h;obtain⟨l,xs,y,rfl,rfl,D,Y,q⟩:=h;cases S;obtain⟨u,rfl,V⟩:=U.one;obtain⟨z,its,n,r,Z,e⟩:=I.lstM D;refine pz F.slot_list_append ⟨_,e,rfl⟩ F.entry_list_append (F.args_list_append_2 _ _) (PySem.list_append l its.toArray n u (by rw[bz];omega)) ⟨e,?_⟩;refine⟨.non,_,I.lset (its':=its++[u]) D e ⋯ (r.append (.cons V .nil)) ?_,rfl,q⟩;rw[ax,jd];omega
def HU:V->kv->Hp->VK->Prop:=λx vs H Q=>∃l b xs D,x=.ref l/\vs=[.ref b]/\H l=↑(.lst xs)/\H b=↑(.lst D)/\xs.length+D.length<=sizeLine/\Q .non (aX H l (.lst (xs++D)))
theorem HV:rE X "list.extend" HU:=by
 intro pins s σ H x vs v us Q I Y Z h;obtain⟨l,b,xs,j,rfl,rfl,V,a,k,q⟩:=h;cases Y;obtain⟨u,rfl,c⟩:=Z.one;cases c;obtain⟨z,its,n,r,m,e⟩:=I.lstM V;obtain⟨o,D,d,f,g,i⟩:=I.lstM a;have U:its.toArray.size+D.toArray.size<=sizeLine:=by rw[bz,bz];omega
 have S:¬(!its.toArray.isEmpty && Builtin.List.listTooLong (its.toArray.size+D.toArray.size))=true:=by
  rw[Cf U,Bool.and_false];exact de
 refine pz F.slot_list_extend ⟨_,e,rfl⟩ F.entry_list_extend (F.args_list_extend_2 _ _)
  (AutoSeq1.list_extend_list_list_0 l its.toArray n b D.toArray d S (by rw[bz];omega) (by omega)) ⟨e,i,?_⟩
 refine⟨.non,_,I.lset (its':=its++D) V e ⋯ (r.append f) ?_,rfl,q⟩;rw[ax];omega
def wM:V->kv->Hp->VK->Prop:=λx vs H Q=>∃l xs y,x=.ref l/\vs=[]/\H l=↑(.lst xs)/\xs[xs.length-1]?=↑y/\Q y (aX H l (.lst xs.dropLast))
theorem Ch:rE X "list.pop" wM:=by
 intro pins s σ H x vs v us Q I V Y h;obtain⟨l,xs,y,rfl,rfl,U,Z,q⟩:=h;cases V;have D:=Y.zero;subst D;obtain⟨z,its,n,r,a,e⟩:=I.lstM U;obtain⟨u,b,c⟩:=r.get Z;have S:its.toArray[its.toArray.size-1]?=↑u:=by
  show its.toArray[its.length-1]?=↑u;rw[<-Array.getElem?_toList,<-a];exact b
 refine pz F.slot_list_pop ⟨_,e,rfl⟩ F.entry_list_pop (F.args_list_pop_1 _) (MeetsSeq.list_pop_last l its.toArray n u S (by rw[bz];omega)) ⟨e,?_⟩;refine⟨y,_,I.lset (its':=its.dropLast) U e ?_ r.dropLast ?_,c,q⟩
 ·show its.toArray.eraseIdxIfInBounds (its.toArray.size-1)=its.dropLast.toArray
  rw[bz,List.eraseIdxIfInBounds_toArray,HR]
 ·rw[List.length_dropLast]
  omega
def wN:R2:=λx y H Q=>∃l k xs,x=.ref l/\y=.int k/\H l=↑(.lst xs)/\-(2 ^ 63)<=k/\k<2 ^ 63/\xs.length*k.toNat<=sizeLine /\
 ∀p,H p=none->Q (.ref p) (aX H p (.lst (List.replicate k.toNat xs).flatten))
def HW(xs:List α)(k:Nat):(List.replicate k xs).flatten.length=k*xs.length:=by
 induction k with
 |zero=>simp |succ k ih=>rw[js,eh,ax,ih,Nat.succ_mul,Nat.add_comm]
theorem HX:fV X (binaryOp .Mult) wN:=by
 intro pins s σ H x y v u Q I d f h;obtain⟨l,k,xs,rfl,rfl,g,h1,h2,c,q⟩:=h;cases d;obtain⟨t,rfl⟩:=f;obtain⟨z,its,n,r,i,e⟩:=I.lstM g;have S:its.toArray.size*k.toNat<=sizeLine:=by rw[bz,<-i];exact c
 have V:¬its.toArray.size*k.toNat > (2 ^ 63-1) / 8:=by
  have:(sizeLine:Nat)<=(2 ^ 63-1) / 8:=by decide
  omega
 have Y:¬(!Builtin.List.listFitsIndex k)=true:=by
  rw[fitsIndex_both h1 h2];exact de
 have D:¬Builtin.List.listTooLong (its.toArray.size*k.toNat)=true:=by
  rw[Cf S];exact de
 have Z:List.foldl (λb x2=>b++x2) #[] (List.replicate (if its.toArray.isEmpty=true then 0 else k.toNat) its.toArray)=(List.replicate k.toNat its).flatten.toArray:=by
  have j:∀m:Nat,List.foldl (λb x2=>b++x2) #[] (List.replicate m its.toArray)=(List.replicate m its).flatten.toArray:=λm=>by
   have:=Ce its m [];rw[lj] at this;exact this
  rw[j];cases its with
  |nil=>simp |cons a r'=>rw[bw ⋯]
 refine wpAny_binaryOp_repeat_ref (T:="list") (U:="int") (by decide) ⟨_,e,rfl⟩ (λs'=>typeIs_int s' k t) noFill_list_mul F.fills_int_mul F.slot_int_rmul repeat_list F.slot_int_index.lookup
  (pz F.slot_int_rmul (typeIs_int s k t) F.entry_int_rmul (F.args_int_rmul_2 _ _) (int___rmul___int_list k t l its.toArray n)
    ⟨e,rfl,⟨_,e,rfl⟩,pz F.slot_list_mul ⟨_,e,rfl⟩ F.entry_list_mul (F.args_list_mul_2 _ _) (AutoListH.list___mul___list_int_3 l its.toArray n k t Y V D) ⟨e,?_⟩⟩)
 rw[Z];exact⟨.ref _,_,I.lnew (t':=s.toks) (r.rep k.toNat) (by rw[HW,Nat.mul_comm];exact c),rfl,q _ I.fresh⟩
end L2
namespace Att
open PySem PySem.W PySem.Calls PyProof.Rows
variable{P:Params}{h:Heap}
def HY:∀(ns:ik) (vs:h7),WellAll P h vs (ns.map WData.int)->IntsAre vs ns:=by
 intro ns;induction ns with
 |nil =>
   intro vs w;rw[dw] at w;cases w;exact .nil
 |cons n ns ih =>
   intro vs w;rw[b9] at w;cases w with
   |cons a b =>
     cases a;exact .cons _ _ (ih _ b)
variable{l:OpenLaw}{n:Nat}
def HZ(c:l.most=↑n){args:List WData}{D:h7}(I:l.row.toRowW.claim.pre args=true)(Y:WellAll P h D args) :
  ∃a vs ns,D=[Value.ref a]/\args=[WData.list (ns.map WData.int)]/\h.get? a=some { cls:=.type "list",data:=.seq vs.toArray }/\IntsAre vs ns/\ns.length<=n:=by
 have Z:WShape.hasAll [] args [.list .int]=true:=(pre_splitW I).1;have b:l.pre.holds [] { args:=args }=true:=(pre_splitW I).2;obtain⟨d,r,rfl,h1,h2⟩:=hasAllW_cons Z;obtain rfl:=hasAllW_nil h2;obtain⟨xs,rfl,e⟩:=hasW_list h1;obtain⟨ns,rfl⟩:=items_int e;have S:ns.length<=n:=by
  unfold OpenLaw.pre at b;have U:(WTm.not (.lt (.lit ↥(n:Int)) (.len (.arg 0)))).holds [] { args:=[.list (ns.map .int)] }=true:=by
   have U:=(holds_andW b).1;rw[c] at U;exact U
  have V:=condW_of U (w_not (w_lt w_lit (w_len_list (w_arg rfl))));rw[ai] at V;refine i7 λq=>?_;have f:(n:Int)<((ns.length:Nat):Int):=by omega
  first
   | (rw[l3 f] at V;exact absurd V (by decide))
   | (simp at V;omega)
 cases Y with
 |cons w1 w2 =>
   cases w2;cases w1 with
   |list ho hall=>exact⟨_,_,ns,rfl,rfl,ho,HY ns _ hall,S⟩
def H_(l:OpenLaw)(args:List WData):l.row.toRowW.claim.post args (.bool true) args=true :=
 postW_of (r:=l.row.toRowW) (X:=(true==true))
  (show WShape.has [] (.bool true) .bool=true by first |rfl |decide |simp[WShape.has,WShape.arms,WShape.armsAll])
  (show(WTm.eq .res (.lit (.bool true))).value [] { args:=args,res:=↑(.bool true),after:=args }=↑(.bool (true==true)) from w_eq_bool (w_res rfl) w_lit) rfl
def attach_call{q:Program}{I:h6}{k:(Str->h8)->Heap->Prop}{m:World->Heap->Prop}{d:DefRec}(u:l.most=↑n)(c:d.params.defaults=[])(call:∀(w:World) (s₀ D:Shared) (mg e:Str->h8) (fa:Addr) (o:Obj) (g cd S:Value) (a:Addr) (vs:h7) (ns:ik),
   Ground q I [] k w s₀ mg e D.heap->m w D.heap ->
   D.heap.get? fa=↑o->o.data=.func (docDef d.name d.params d.body d.scope g cd S)->D.heap.CodeRec cd d.name->mg d.name=↑(.ref fa) ->
   D.heap.get? a=some { cls:=.type "list",data:=.seq vs.toArray }->IntsAre vs ns->ns.length<=n->D.gens=#[] ->
   codeAny (model l.prog w) callerA (.call (.ref fa) ⟨[.ref a],[]⟩) (λr s'=>r=.ok (.ret (.bool true))/\OldK D.heap s'.heap/\s'.os=D.os/\AllBare s'.gens) D) :
  WalkO q I k m l.row.toRowW d [] (λf vs=>PySem.call f vs):=by
 intro w s₀ D mg e G Y fa o g cd S v kV x hd h p i y args s as V t z j A;obtain rfl:v=.none:=Dflts.none p c;obtain rfl:kV=.none:=Dflts.noKw p;obtain⟨a,vs,ns,rfl,rfl,Z,U,b⟩:=HZ u V j;refine enter_call (ji (call w s₀ D mg e fa o g cd S a vs ns G Y x (fd_plain hd) h i Z U b y) λr s' B=>?_);obtain⟨rfl,h2,C,E⟩:=B;exact⟨.inl ⟨.bool true,.bool true,[],rfl,λ_=>rfl,.bool true,H_ l _,λ_=>⟨List.Pairwise.nil,λ_ F=>(nomatch F)⟩⟩,h2,C,E⟩
end Att
namespace L2
open PySem PySem.Spec PyProof.Rows
def Ci:∀ {vs:h7} {ns:ik},IntsAre vs ns->aN (ns.map V.int) vs
 |_,_,.nil=>.nil |_,_,.cons n t h=>.cons ⟨t,rfl⟩ (Ci h)
def kX(H:Hp):Prop:=∀b,H b=none\/∃o xs,H b=↑(.frz o (.lst xs))
variable{w:World}{K:kf}{k:Nat}{a:Addr}{x:Str}{vs:h7}
def Ia{P:Program}{mg B:Str->h8}{CX:hY}{fa:Addr}{fd:FuncData}{sp:Sp}{D:Shared}{ns:ik}(L:K.In D.heap)(c:D.heap.Ns mainGlobals mg)(S:D.heap.Ns builtinsNs B)(C:∀x:Str,x ≠ "__name__"->B x=bootBuiltins x)(f:D.heap.NoLimit)(R:D.gens=#[])(A:D.heap.get? a=some { cls:=.type "list",data:=.seq vs.toArray })(hi:IntsAre vs ns)(M:ns.length<=sizeLine)(T:bA k callerA)(F:∀base:Heap,K.In base->base.Ns mainGlobals mg->cJ P w K mg base CX k fa fd [x] sp)(Z:∀(s:Shared) (u:Value),BindsTo s fd ⟨[u],[]⟩ [(x,u)])(E:∀H:Hp,kX H->dH K H a (ns.map V.int)->sp [.ref a] H (λv _=>v=.bl true) λ_ _ _=>False)(G:∀H e s',CX [] H D (λ_ _ _=>False) e s'->False) :
  codeAny (model P w) callerA (.call (.ref fa) ⟨[.ref a],[]⟩) (λr s'=>r=.ok (.ret (.bool true))/\OldK D.heap s'.heap/\s'.os=D.os/\AllBare s'.gens) D:=by
 have N:=Ci hi;have g:=hi.length;have Y:∀H:Hp,kX H->dH K H a (ns.map V.int)->eY P w H D.heap->(∀b,H b≠none->b=a)->(H a≠none->K.lookup a=none) ->
   codeAny (model P w) callerA (.call (.ref fa) ⟨[.ref a],[]⟩) (λr s'=>r=.ok (.ret (.bool true))/\OldK D.heap s'.heap/\s'.os=D.os/\AllBare s'.gens) D:=by
  intro H O W i hA X;have I:∀ {b:Addr} {o:Obj},D.heap.get? b=↑o->H b=none->(gN D.heap H).get? b=↑o:=λe n=>Gj e n;have J:∀ {b:Addr} {o:Obj} {es:Array DictEntry} {j:Nat},D.heap.get? b=↑o->o.data=.dict es j->H b=none:=λ{b o es j} e d=>by
   cases q:H b with
   |none=>rfl |some u =>
     have e':b=a:=hA b (by rw[q];simp);subst e';rw[A] at e;cases e;have d':Data.seq vs.toArray _=Data.dict es j:=d;cases d'
  have U:∀ {b:Addr} {m:Str->h8},D.heap.Ns b m->(gN D.heap H).Ns b m:=λ{b m} ⟨o,es,j,e,d,r⟩=>⟨o,es,j,I e (J e d),d,r⟩;have l:K.In (gN D.heap H):=λb o e=>I (L b o e) (by
   cases q:H b with
   |none=>rfl |some u =>
     have e':b=a:=hA b (by rw[q];simp);subst e';rw[X (by rw[q];simp)] at e;cases e)
  have hM:Mod K mg (gN D.heap H):=⟨l,U c,⟨B,U S,C⟩,let ⟨mc,h1,h2⟩:=f;⟨mc,U h1,h2⟩⟩;have e0:gO P w K mg (gN D.heap H) callerA [] D H:=⟨rfl,hM,λb o e=>Gk e,Nat.le_of_eq (Gi _ _),trivial,λb S=>absurd (show b∈([]:ia) from S) ⋯,i,.of_eq R⟩;refine ji ((F _ l (U c)).run callerA [] D H ⟨[.ref a],[]⟩ [.ref a] [.ref a] _ _ T e0 (Z D (.ref a)) (.cons rfl .nil) (E H O W)) λr s' h=>?_;cases r with
  |error e=>exact(G H e s' h).elim |ok fl =>
    cases fl with
    |next=>exact False.elim h |brk=>exact False.elim h |cont=>exact False.elim h |ret u =>
      obtain⟨v,H',os,p,un,t,r',q⟩:=h;have q':v=.bl true:=q;subst q';obtain rfl:u=Value.bool true:=r';refine⟨rfl,OldK.of_keep λb o e=>?_,os,p⟩;cases q:H b with
      |none=>exact un.keep b o e q (by intro z;exact absurd (show b∈([]:ia) from z) ⋯) ⋯
      |some u =>
        rcases O b with z | ⟨ob,xs,z⟩
        ·rw[q] at z;cases z
        ·have z2:=un.frzs b ob _ z
         obtain⟨Q,_⟩:=i b _ z;obtain⟨e2,_⟩:=t b _ z2;rw[e] at Q;cases Q;exact e2
 cases hk:K.lookup a with
 |some o =>
   have e:=L a o hk;rw[A] at e;cases e;refine Y (λ_=>none) (λ_=>.inl rfl) (.inr ⟨_,vs.toArray,_,hk,rfl,rfl,rfl,by rw[bz,g];exact M,by simpa using N⟩) (λb u z=>by have y:(none:Option HO)=↑u:=z;cases y) (λb z=>absurd rfl z) λz=>absurd rfl z
 |none =>
   refine Y (λb=>if b=a then ↑(.frz { cls:=.type "list",data:=.seq vs.toArray } (.lst (ns.map V.int))) else none) (λb=>?_) (.inl (.inr ⟨{ cls:=.type "list",data:=.seq vs.toArray },am rfl⟩)) (λb u z=>?_) (λb z=>?_) λ_=>hk
   ·by_cases S:b=a
    ·exact .inr ⟨_,_,am S⟩
    ·exact .inl (bw S)
   ·by_cases S:b=a
    ·have y:=(am S).symm.trans z
     cases y;subst S;exact⟨A,by rw[ai];exact M,vs,_,N,A⟩
    ·have y:=(bw S).symm.trans z
     cases y
   ·by_cases S:b=a
    ·exact S
    ·exact absurd (bw S) z
variable{l:Addr}{n:Nat}{q:FT}{d:D}
def Ib{l:PySem.W.OpenLaw}{q:Program}{I:h6}{y:(Str->h8)->Heap->Prop}{r:World->Heap->Prop}{d:DefRec}{K:Params->kf}{CX:World->hY}{sp:World->Sp}(z:l.most=↑n)(c:n<=sizeLine)(i:d.params.defaults=[])(A:bA k callerA)(B:∀(w:World) (h:Heap),r w h->(K w.params).In h)(F:∀(w:World) (mg:Str->h8) (fa:Addr) (h:Heap),(K w.params).In h->h.Ns mainGlobals mg->mg d.name=↑(.ref fa) ->
   ∃fd:FuncData,(∀(s:Shared) (u:Value),BindsTo s fd ⟨[u],[]⟩ [(x,u)]) /\
    ∀base:Heap,(K w.params).In base->base.Ns mainGlobals mg->cJ l.prog w (K w.params) mg base (CX w) k fa fd [x] (sp w))(j:∀(w:World) (H:Hp) (a:Addr) (ns:ik),ns.length<=n->kX H->dH (K w.params) H a (ns.map V.int)->sp w [.ref a] H (λv _=>v=.bl true) λ_ _ _=>False)(m:∀(w:World) (H:Hp) (s:Shared) (e:Value) (s':Shared),CX w [] H s (λ_ _ _=>False) e s'->False) :
  PySem.W.WalkO q I y r l.row.toRowW d [] (λf vs=>PySem.call f vs):=by
 refine Att.attach_call z i λw s₀ U mg P fa o Q cd C a vs ns G Y R hd E p Z S D J=>?_;have t:=B w _ Y;obtain⟨fd,L,M⟩:=F w mg fa _ t G.T.g p;exact Ia t G.T.g G.T.b G.T.builtins G.T.nolimit J Z S (d7 D c) A M L (λH N O=>j w H a ns D N O) λH e s'=>m w H U e s'
def wv(s:Stmt):Arguments:=match s with
 | .FunctionDef _ a _ _ _ _ _ _ _ _=>a |_=>{ posonlyargs:=[],args:=[],vararg:=none,kwonlyargs:=[],kw_defaults:=[],kwarg:=none,defaults:=[] }
def ny(s:Stmt):List Stmt:=match s with
 | .FunctionDef _ _ b _ _ _ _ _ _ _=>b |_=>[]
def ip(s:Stmt):Scope:=match s with
 | .FunctionDef _ _ _ _ _ _ sc _ _ _=>sc |_=>{ kind:=.function,names:=[],isGenerator:=false,isCoroutine:=false }
abbrev bV:hY:=λ_ _ _ _ _ _=>False
abbrev E0:XK:=λ_ _ _=>False
variable{X:Cx}
def rF:wD bV X E0:=λ_ _ _ _ _ _ _ h=>h.elim
structure hB (K:kf) (x qual:Str) (st:Stmt) (f:Addr) (fd:FuncData):Prop where
 ex:∃(oc:Value) (od:Option Addr) (kV doc pm:Value) (an:Option Addr) (cdv ct:Value) (osl:Array h8),
  fd=PySem.W.fnOf x qual (wv st) (ny st) (ip st) .none kV doc pm an cdv ct/\K.lookup f=↑⟨oc,od,.func fd,osl⟩/\PySem.W.codeIn K cdv qual=true
 kp:PySem.W.keepIn K (.ref f)=true
variable{f:FE}
def wO{qual:Str}{st:Stmt}{f:Addr}{oc:Value}{od an:Option Addr}{osl:Array h8}{kV D I cdv ct:Value}(l:K.lookup f=↑⟨oc,od,.func (PySem.W.fnOf x qual (wv st) (ny st) (ip st) .none kV D I an cdv ct),osl⟩)(c:PySem.W.codeIn K cdv qual=true)(k:PySem.W.keepIn K (.ref f)=true):hB K x qual st f (PySem.W.fnOf x qual (wv st) (ny st) (ip st) .none kV D I an cdv ct):=⟨⟨oc,od,kV,D,I,an,cdv,ct,osl,rfl,l,c⟩,k⟩
variable{A:Around}
def Cj(D:bA k A):A.units+1<cLine:=l7 (Nat.add_le_add_left (by decide:1<=64) _) D.units
def bC(H H':Hp):Prop:=∀b o,H b=↑o->H' b=↑o
def bC.refl(H:Hp):bC H H:=λ_ _ h=>h
variable{H H1 H2:Hp}
def bC.trans(a:bC H H1)(b:bC H1 H2):bC H H2:=λc o h=>b c o (a c o h)
variable{H':Hp}
def bC.free(e:bC H H')(h:H' l=Option.none):H l=Option.none:=by
 cases q:H l with
 |none=>rfl |some o =>
   rw[e l o q] at h;cases h
def wP{env:Env}:∀(names:List (Str×NameKind)) (D:List (Str×Addr)),
  (∀y∈names,y.2=.free->∃c,env.cells.lookup y.1=↑c)->(∀y c,D.lookup y=↑c->env.cells.lookup y=↑c) ->
  ∃cl,(forIn names D λ(x:Str×NameKind) (cs:List (Str×Addr))=>if (x.2==NameKind.free)=true then(do let c <-cellOf env x.1;pure (ForInStep.yield ((x.1,c)::cs)):Sem _) else pure (ForInStep.yield cs))=pure cl /\
   (∀y c,cl.lookup y=↑c->env.cells.lookup y=↑c)/\(∀y c,D.lookup y=↑c->∃S,cl.lookup y=↑S)/\∀y∈names,y.2=.free->∃c,cl.lookup y.1=↑c
 | [],D,_,ha=>⟨D,rfl,ha,λy c e=>⟨c,e⟩,λ_ h=>nomatch h⟩ | (n,k)::r,D,hn,ha=>by
   by_cases V:k=.free
   ·subst V
    obtain⟨c,Z⟩:=hn (n,.free) bi rfl;obtain⟨cl,e,h1,h2,Y⟩:=wP r ((n,c)::D) (λy hy=>hn y (bg _ hy)) (λy S e=>by
     rw[di] at e;cases hq:y==n with
     |true=>rw[hq] at e;cases e;rw[eq_of_beq hq];exact Z
     |false=>rw[hq] at e;exact ha y S e)
    have I:List.lookup n ((n,c)::D)=↑c:=by simp[di]
    refine⟨cl,?_,h1,λy S e'=>?_,λy hy U=>?_⟩
    ·rw[List.forIn_cons]
     have a:cellOf env n=pure c:=by unfold cellOf;rw[Z]
     simp only[m7,dm,a,pure_bind];exact e
    ·cases hq:y==n with
     |true=>rw[eq_of_beq hq];exact h2 n c I |false=>exact h2 y S (by rw[di,hq];exact e')
    ·rcases b6.mp hy with rfl |hy
     ·exact h2 n c I
     ·exact Y y hy U
   ·obtain⟨cl,e,h1,h2,Y⟩:=wP r D (λy hy=>hn y (bg _ hy)) ha
    refine⟨cl,?_,h1,h2,λy hy U=>?_⟩
    ·rw[List.forIn_cons]
     have b:(k==NameKind.free)=false:=by cases k <;> first |rfl |exact absurd rfl V
     simp only[b,bx,ff,pure_bind];exact e
    ·rcases b6.mp hy with rfl |hy
     ·exact absurd U V
     ·exact Y y hy U
variable{sc:Scope}{env:Env}
def wQ(h:∀y∈sc.names,y.2=.free->∃c,env.cells.lookup y.1=↑c) :
  ∃cl,closureFor sc env=pure cl/\(∀y c,cl.lookup y=↑c->env.cells.lookup y=↑c)/\∀y∈sc.names,y.2=.free->∃c,cl.lookup y.1=↑c:=by
 obtain⟨cl,e,h1,_,D⟩:=wP (env:=env) sc.names [] h (λy c e=>by simp at e);refine⟨cl,?_,h1,D⟩;unfold closureFor;rw[show(pure cl:Sem _)=(pure cl >>= λcs=>pure cs) by rw[pure_bind],<-e]
def wR{env:Env}:∀ {names:List (Str×NameKind)} {x:Str} {k:NameKind},
  (names.map λ(n,k)=>if (k==NameKind.free && env.scope.kind==.function && env.kindOf n==some .cell) then(n,NameKind.cell) else(n,k)).lookup x=↑k ->
  names.lookup x=↑k\/(names.lookup x=some .free/\k=.cell)
 | (n,k0)::r,x,k,h=>by
   have I:=@wR env r x k;have h:List.lookup x ((if (k0==NameKind.free && env.scope.kind==.function && env.kindOf n==some .cell)=true then(n,NameKind.cell) else(n,k0))::_)=_:=h;cases hx:x==n with
   |true =>
     by_cases D:(k0==NameKind.free && env.scope.kind==.function && env.kindOf n==some .cell)=true
     ·rw[am D] at h
      simp only[di,hx] at h ⊢;simp only[d9,l6] at D;cases h;exact .inr ⟨by rw[D.1.1],rfl⟩
     ·rw[bw D] at h
      simp only[di,hx] at h ⊢;exact .inl h
   |false =>
     by_cases D:(k0==NameKind.free && env.scope.kind==.function && env.kindOf n==some .cell)=true
     ·rw[am D] at h
      simp only[di,hx] at h ⊢;exact I h
     ·rw[bw D] at h
      simp only[di,hx] at h ⊢;exact I h
def mx{env:Env}:∀ {names:List (Str×NameKind)} {x:Str},names.lookup x=some .free ->
  (names.map λ(n,k)=>if (k==NameKind.free && env.scope.kind==.function && env.kindOf n==some .cell) then(n,NameKind.cell) else(n,k)).lookup x=some .cell \/
  (names.map λ(n,k)=>if (k==NameKind.free && env.scope.kind==.function && env.kindOf n==some .cell) then(n,NameKind.cell) else(n,k)).lookup x=some .free
 | (n,k0)::r,x,h=>by
   have I:=@mx env r x;show List.lookup x ((if (k0==NameKind.free && env.scope.kind==.function && env.kindOf n==some .cell)=true then(n,NameKind.cell) else(n,k0))::_)=_\/List.lookup x ((if (k0==NameKind.free && env.scope.kind==.function && env.kindOf n==some .cell)=true then(n,NameKind.cell) else(n,k0))::_)=_;cases hx:x==n with
   |true =>
     simp only[di,hx] at h;cases h;by_cases D:(NameKind.free==NameKind.free && env.scope.kind==.function && env.kindOf n==some .cell)=true
     ·rw[am D];simp only[di,hx];exact .inl trivial
     ·rw[bw D];simp only[di,hx];exact .inr trivial
   |false =>
     simp only[di,hx] at h;by_cases D:(k0==NameKind.free && env.scope.kind==.function && env.kindOf n==some .cell)=true
     ·rw[am D];simp only[di,hx];exact I h
     ·rw[bw D];simp only[di,hx];exact I h
def kq(X:Cx)(x:Str)(N':h6)(sc:Scope)(cl:List (Str×Addr))(C:Addr)(s₂:Shared)(H₂:Hp)(fp:ia):Cx :=
 { X with N:=x::N',s₀:=s₂,H₀:=H₂,env:=compEnvC sc cl C X.env,outer:=X.stack,stack:=X.stack,ex:=fp,fn:=λ_=>false,pn:=[],xe:=λ_ _=>False }
def gP(X:Cx)(ifs:j0)(tt:TT):Prop :=
 ∀(pins:kl) (s:Shared) (σ:St) (H:Hp) (Q:Bool->Hp->Prop),Inv X pins σ H s->tt σ H Q ->
  wpAny (model X.prog X.w) X.A (forIn ifs true λc r=>if r=true then do let ok <-isTrue c X.env (eval c X.env);pure (ForInStep.yield ok) else pure (ForInStep.yield r)) (TP X pins σ Q) X.xe s
def wS:TT:=λ_ H Q=>Q true H
def Ic:gP X [] wS:=λ_ _ _ H _ I h=>wpAny_tests_nil ⟨H,I,h⟩
variable{c:Expr}
def Ie{tc:TT}(h:PT X c tc):gP X [c] tc:=λpins s σ H Q I q=>wpAny_tests_one (h pins s σ H Q I q)
def xp(wi:TI)(ix:ic)(tt:TT)(te:TE):TE:=λσ H Q=>wi σ H λJ H1=>∃W:Nat->Nat->Hp->kv->Prop,(∃m,W 0 m H1 [])/\∀i m H ys,W i m H ys ->
 (J.stop i H/\ys.length<=sizeLine/\∀D,H D=none->Q (.ref D) (aX H D (.lst ys))) \/
 (J.go i H/\∀x H',J.yld i H x H'->tt (↑x::ix.map (λj=>σ.getD j none)) H' λb H2 =>
   if b=true then te (↑x::ix.map (λj=>σ.getD j none)) H2 λv S=>ys.length<sizeLine/\∃I,I<m/\W (i+1) I S (ys++[v]) else ∃I,I<m/\W (i+1) I H2 ys)
abbrev lobj(ys:h7):Obj:={ cls:=.type "list",data:=.seq ys.toArray ys.length }
variable{ys:kv}{y:Str}
def aN.snoc{y:V}{u:Value}(h:aN ys vs)(r:RelV y u):aN (ys++[y]) (vs++[u]):=aN.append h (.cons r .nil)
def Ig(vs:h7)(u:Value):({ cls:=.type "list",data:=.seq (vs.toArray.push u) (vs.length+1) }:Obj)=lobj (vs++[u]):=LCg.lst_snoc vs u
variable{R:Result->Shared->Prop}{s:Sl}{elt iter:Expr}{ifs:j0}{pos:Pos}
def Ih{prog:Program}{s:Shared}{D:Expr}{scope:Scope}{it b:Value}(I:Nat->Shared->Prop)(turn:∀n s,I n s->wpAny (model prog w) A (pyNext it) (λr S=>match r with
   |none=>R (.ok .next) S |some v => wpAny (model prog w) A (letOwnedTupleGo D it v) (λ_ U => wpAny (model prog w) A (assign D env v) (λ_ s₂ => wpAny (model prog w) A (forIn ifs true λc r => if r = true then do let ok <-isTrue c env (eval c env);pure (ForInStep.yield ok) else pure (ForInStep.yield r)) (λok V =>
       if ok=true then wpAny (model prog w) A (eval elt env) (λx Y=>wpAny (model prog w) A (call (.builtin "list.append") [b,x]) (λ_ Z=>∃m,m<n/\I m Z) (notedBy (model prog w) A env λe s'=>R (.error e) s') Y) (notedBy (model prog w) A env λe s'=>R (.error e) s') V
       else ∃m,m<n/\I m V) (notedBy (model prog w) A env λe s'=>R (.error e) s') s₂) (notedBy (model prog w) A env λe s'=>R (.error e) s') U) (notedBy (model prog w) A env λe s'=>R (.error e) s') S) (notedBy (model prog w) A env λe s'=>R (.error e) s') s)(n:Nat)(h:I n s):codeAny (model prog w) A (.compLoop (.ListComp elt [⟨D,iter,ifs,0⟩] scope pos) 0 it b env) R s:=by
 refine codeAny_loop rfl I (λn s j=>?_) n h;refine(show wpAny _ A ((compTurn (.ListComp elt [⟨D,iter,ifs,0⟩] scope pos) 0 it b env).onRaise (λx=>do noteFrame x env;theTreesLotGoes x)) _ _ s from wpAny_noted ?_);rw[compTurn_list];refine au (nz (au (bK (turn n s j) λr S h₁=>?_)));cases r with
 |none=>exact cz h₁ |some v =>
   refine au (bK h₁ λ_ U d=>au (bK d λ_ s₂ f=>au (bK f λok V a=>?_)));cases ok with
   |false=>exact cz ⟨rfl,a⟩ |true=>exact au (au (bK a λx Y g=>au (bK g λ_ Z i=>cz (cz ⟨rfl,i⟩))))
def m3(X:Cx)(xs N':h6)(sc:Scope)(cl:List (Str×Addr))(C:Addr)(s₂:Shared)(H₂:Hp)(fp:ia):Cx :=
 { X with N:=xs++N',s₀:=s₂,H₀:=H₂,env:=compEnvC sc cl C X.env,outer:=X.stack,stack:=X.stack,ex:=fp,fn:=λ_=>false,pn:=[],xe:=λ_ _=>False }
def Ck(Y:Nat)(wi:TI)(g:TG)(ix:ic)(tt:TT)(te:TE):TE:=λσ H Q=>wi σ H λJ H1=>∃W:Nat->Nat->Hp->kv->Prop,(∃m,W 0 m H1 [])/\∀i m H ys,W i m H ys ->
 (J.stop i H/\ys.length<=sizeLine/\∀D,H D=none->Q (.ref D) (aX H D (.lst ys))) \/
 (J.go i H/\∀x H',J.yld i H x H'->∀σp:St,σp.length=Y->g x (σp++ix.map (λj=>σ.getD j none)) H' λI H1=>∃S:St,S.length=Y/\I=S++ix.map (λj=>σ.getD j none)/\tt I H1 λb H2 =>
   if b=true then te I H2 λv Z=>ys.length<sizeLine/\∃U,U<m/\W (i+1) U Z (ys++[v]) else ∃U,U<m/\W (i+1) U H2 ys)
variable{pins:kl}{σ:St}{s2:Shared}{fp:ia}{cl:List (Str×Addr)}{h₁:Heap}{m₁:Str->h8}{xs N':h6}{ix:ic}
theorem Ii{tk:Nat}(t:N'=ix.map λi=>X.N.getD i ("" : Str))(K:sc.kind=.function)(Y:∀y∈sc.names,y.2≠.cell)(Z:∀y∈sc.names,y.2=.free->X.env.kindOf y.1=some .cell\/X.env.kindOf y.1=some .free)(x:∀y∈N',sc.names.lookup y=some .free)(h1:∀y c,cl.lookup y=↑c->X.env.cells.lookup y=↑c)(J:∀y∈sc.names,y.2=.free->∃c,cl.lookup y.1=↑c)(I:Inv X pins σ H2 s2)(s:∀b∈fp,dX X pins H2 b)(A:∀b∈fp,∃o,s2.heap.get? b=↑o)(V:∀b o,s2.heap.get? b=↑o->h₁.get? b=↑o)(B:h₁.Ns (s2.heap.objs.size+1) m₁)(L:h₁.get? s2.heap.objs.size=↑(lobj [])) :
  Inv (m3 X xs N' sc cl (s2.heap.objs.size+1) s2 H2 fp) [(s2.heap.objs.size,lobj [])] (xs.map (λ_=>none)++ix.map (λj=>σ.getD j none)) H2 { s2 with heap:=h₁,toks:=tk }:=by
 have C:∀b∈fp,b<s2.heap.objs.size:=λb U=>by obtain⟨o,e⟩:=A b U;exact bj e
 have d:∀b,s2.heap.objs.size<=b->b∉fA X.stack:=λb U z=>by
  rcases b6.mp (I.stkSub b z) with e |z
  ·exact absurd (bn I.lt (e ▸ U)) (gm _)
  ·exact I.nofs U z
 refine⟨⟨I.ok.mod,K,I.ok.glob,I.ok.blt,o5 _,λy z c S D=>I.ok.inj y z c (h1 _ _ S) (h1 _ _ D),λy M=>?_,λy c z _=>(by cases z),I.ok.hd,I.ok.frames,.inl rfl,λb U=>⟨?_,λy c e=>?_⟩,I.bs,d7 I.ok.bsz I.sz,λb o e U=>?_,λb U z=>?_,I.stack,I.stkFree⟩,
  rfl,I.bare,Un.kept V,⟨m₁,B,λi y v S D W=>?_⟩,λy c e=>?_,I.hok.fresh (o5 _),λy c e=>I.freeC y c (h1 y c e),λp E=>?_,I.hok.kept V,?_⟩
 ·have F:(relabel sc X.env).names.lookup y=some .cell\/(relabel sc X.env).names.lookup y=some .free:=M
  have O:sc.names.lookup y=some .free:=by
   rcases F with q |q
   ·rcases wR q with q | ⟨q,_⟩
    ·exact absurd rfl (Y _ (fm q))
    ·exact q
   ·rcases wR q with q | ⟨_,q⟩
    ·exact q
    ·cases q
  exact J (y,.free) (fm O) rfl
 ·exact bu (gx (C b U))
 ·exact(s b U).2.2.2.2.1 y c (h1 y c e)
 ·rcases(s b U).2.2.2.1 with z |z
  ·exact I.ok.noex b o e z
  ·exact absurd (bn (bj e) (d7 I.ok.bsz z)) (gm _)
 ·have z:b∈fA X.stack:=z
  rcases b6.mp (I.stkSub b z) with e |z
  ·exact(s b U).2.1 e
  ·exact(s b U).2.2.1 z
 ·by_cases f:i<xs.length
  ·rw[ay (by simpa using f),cb] at D
   cases hq0:xs[i]? with
   |none=>rw[hq0] at D;cases D
   |some z0=>rw[hq0] at D;cases D
  ·have S:(xs++N')[i]?=↑y:=S
   rw[cy ∅] at S;rw[cy (by rw[ai];lia),ai] at D;generalize i-xs.length=j at S D;rw[t,cb] at S;rw[cb] at D;cases q:ix[j]? with
   |none=>rw[q] at S;cases S
   |some k =>
     rw[q] at S D;have S:X.N.getD k "" = y:=b8 S;have D:σ.getD k none=↑v:=b8 D;have g:σ[k]?=↑↑v:=by
      rw[cj] at D;cases q2:σ[k]? with
      |none=>rw[q2] at D;cases D
      |some z=>rw[q2] at D;rw[show z=↑v from D]
     have h:k<X.N.length:=by rw[<-I.len];exact(aj.mp g).1
     have G:X.N[k]?=↑y:=by
      rw[cj,bc h] at S;rw[bc h];exact congrArg some S
     have H:y∈N':=by
      rw[t,<-S];exact f7.mpr ⟨k,bh q,rfl⟩
     have a:=x y H;have l:=Z (y,.free) (fm a) rfl;have n:kS X.env.scope y:=by
      rcases l with z |z
      ·exact .inr (.inl z)
      ·exact .inr (.inr z)
     obtain⟨m,hn,P⟩:=I.loc;obtain⟨u,Q,R⟩:=P k y v G g n;refine⟨u,Q,.inr ⟨?_,?_⟩⟩
     ·exact mx a
     ·rcases R with⟨z,_⟩ | ⟨_,c,hc,hcv⟩
      ·rcases l with w |w <;> rw[show X.env.kindOf y=_ from w] at z <;> cases z
      ·obtain⟨T,r⟩:=J (y,.free) (fm a) rfl
       have:=h1 y T r;rw[hc] at this;cases this;exact⟨c,r,hcv.keeps V⟩
 ·obtain⟨v,q⟩:=I.cell y c (h1 y c e)
  exact⟨v,q.keeps V⟩
 ·have E:p∈[(s2.heap.objs.size,lobj [])]:=E
  rw[dc.mp E];exact⟨L,I.hok.fresh (cw _),bu (ft _),d _ (cw _),λv z=>by cases z⟩
 ·simp[m3,t]
def wT{f:St}{V:Shared}{h':Heap}(I:Inv X pins σ H2 s2)(j:∀b∈fp,dX X pins H2 b)(k:∀b∈fp,∃o,s2.heap.get? b=↑o)(J:Inv (m3 X xs N' sc cl (s2.heap.objs.size+1) s2 H2 fp) [(s2.heap.objs.size,lobj vs)] f H' V)(l:aN ys vs)(m:ys.length<=sizeLine)(a:Heap.SameBut (s2.heap.objs.size+1) V.heap h') :
  Inv X pins σ (aX H' s2.heap.objs.size (.lst ys)) { V with heap:=h' }:=by
 have i:=J.pin (s2.heap.objs.size,lobj vs) (cf _ bi);have Y:H' s2.heap.objs.size=none:=i.2.1;have Z:H' (s2.heap.objs.size+1)=none:=J.free;have S:Un (fA X.stack) fp H2 H' s2.heap V.heap:=J.base;have d:∀b o,s2.heap.get? b=↑o->b≠s2.heap.objs.size/\b≠s2.heap.objs.size+1:=λb o e=>by
  have:=bj e;exact⟨bu this,bu (gx this)⟩
 have f2:∀b,s2.heap.objs.size<=b->H2 b=none:=λb D=>I.hok.fresh D;have g:∀b o,H2 b=↑o->b≠s2.heap.objs.size:=λb o e z=>by rw[z,f2 _ (cw _)] at e;cases e
 have p:Un (fA X.stack) fp H2 (aX H' s2.heap.objs.size (.lst ys)) s2.heap h':=by
  refine⟨λb o e n D U=>(a.2 b (d b o e).2).trans (S.keep b o e n D U),λb o e n D U=>?_,λb o e n U=>?_,λb o e U=>?_,λb xs e=>?_,λb o u e=>?_,λb ps e=>?_⟩
  ·obtain⟨sl,q⟩:=S.slot b o e n D U
   exact⟨sl,(a.2 b (d b o e).2).trans q⟩
  ·rw[i4 (d b o e).1];exact S.free b o e n U
  ·obtain⟨o',q⟩:=S.there b o e U
   exact⟨o',(a.2 b (d b o e).2).trans q⟩
  ·rw[i4 (g b _ e)];exact S.tups b xs e
  ·rw[i4 (g b _ e)];exact S.frzs b o u e
  ·rw[i4 (g b _ e)];exact S.tbls b ps e
 have kk:∀b u,b≠s2.heap.objs.size+1->V.heap.get? b=↑u->h'.get? b=↑u:=λb u D q=>(a.2 b D).trans q;have h:eY X.prog X.w (aX H' s2.heap.objs.size (.lst ys)) h':=λb u e=>by
  by_cases D:b=s2.heap.objs.size
  ·subst D
   rw[md] at e;cases e;exact⟨m,vs,vs.length,l,kk _ _ (bu (ft _)) i.1⟩
  ·rw[i4 D] at e
   have r:b≠s2.heap.objs.size+1:=λz=>by rw[z,Z] at e;cases e
   refine(J.hok b u e).stay (λc v hc q=>kk c v ?_ q) (λc q=>?_) λc xs q=>?_
   ·rcases hc with rfl |hc
    ·exact r
    ·intro z;rw[z,Z] at hc;cases hc
   ·rw[i4 (λz=>by rw[z,Y] at q;cases q)];exact q
   ·rw[i4 (λz=>by rw[z,Y] at q;cases q)];exact q
 refine I.call' (s':={ V with heap:=h' }) (ch:=fp) J.os p h J.bare λb D=>?_;obtain⟨_,s,_,t,x,y⟩:=j b D;exact⟨t,s,x,y⟩
variable{J:It}{Q:VK}{W:Nat->Nat->Hp->kv->Prop}{Cm:Cx->Prop}{tg:Expr}{g:TG}{tt:TT}{te:TE}
theorem wU{it:Addr}{L:Nat->Heap->Prop}{m0:Nat}(hc:∀cl C s₂ H₂ fp pins σ,Inv X pins σ H₂ s₂->(∀b∈fp,dX X pins H₂ b)->Cm (m3 X xs N' sc cl C s₂ H₂ fp))(a7:∀cl C s₂ H₂ fp,Cm (m3 X xs N' sc cl C s₂ H₂ fp)->gP (m3 X xs N' sc cl C s₂ H₂ fp) ifs tt)(a8:∀cl C s₂ H₂ fp,Cm (m3 X xs N' sc cl C s₂ H₂ fp)->PE (m3 X xs N' sc cl C s₂ H₂ fp) elt te)(hg:∀cl C s₂ H₂ fp,Cm (m3 X xs N' sc cl C s₂ H₂ fp)->PG (m3 X xs N' sc cl C s₂ H₂ fp) tg g)(hN:N'=ix.map λi=>X.N.getD i ("" : Str))(hk:sc.kind=.function)(M:∀y∈sc.names,y.2≠.cell)(a6:∀y∈sc.names,y.2=.local->sc.names.lookup y.1=some .local)(O:∀y∈sc.names,y.2=.free->X.env.kindOf y.1=some .cell\/X.env.kindOf y.1=some .free)(a9:∀y∈N',sc.names.lookup y=some .free)(h1:∀y c,cl.lookup y=↑c->X.env.cells.lookup y=↑c)(h3:∀y∈sc.names,y.2=.free->∃c,cl.lookup y.1=↑c)(f:Inv X pins σ H2 s2)(T:ym Cm X.prog X.w X.K tg J fp it L)(al:L 0 s2.heap)(f2:∀b∈fp,dX X pins H2 b)(w0:W 0 m0 H2 [])(turn:∀i m H ys,W i m H ys ->
   (J.stop i H/\ys.length<=sizeLine/\∀D,H D=none->Q (.ref D) (aX H D (.lst ys))) \/
   (J.go i H/\∀x H',J.yld i H x H'->∀σp:St,σp.length=xs.length->g x (σp++ix.map (λj=>σ.getD j none)) H' λh H1=>∃U:St,U.length=xs.length/\h=U++ix.map (λj=>σ.getD j none)/\tt h H1 λb H2 =>
     if b=true then te h H2 λv H3=>ys.length<sizeLine/\∃k,k<m/\W (i+1) k H3 (ys++[v]) else ∃k,k<m/\W (i+1) k H2 ys))(an:∀b o,s2.heap.get? b=↑o->h₁.get? b=↑o)(l:h₁.Ns (s2.heap.objs.size+1) m₁)(ap:h₁.get? s2.heap.objs.size=↑(lobj []))(hR:∀s5 B ys vs s,Inv (m3 X xs N' sc cl (s2.heap.objs.size+1) s2 H2 fp) [(s2.heap.objs.size,lobj vs)] s B s5->aN ys vs->ys.length<=sizeLine->(∀D,B D=none->Q (.ref D) (aX B D (.lst ys)))->R (.ok .next) s5) :
  codeAny (model X.prog X.w) X.A (.compStart (.ListComp elt [⟨tg,iter,ifs,0⟩] sc pos) 0 (.ref it) (.ref s2.heap.objs.size) (compEnvC sc cl (s2.heap.objs.size+1) X.env)) R { s2 with heap:=h₁,toks:=s2.toks+([]:List (Str×Value)).length }:=by
 have ar:∀b∈fp,∃o,s2.heap.get? b=↑o:=λb I=>by obtain⟨o,e,_⟩:=T.obj _ _ al b I;exact⟨o,e⟩
 have P:∀b∈fp,b<s2.heap.objs.size:=λb I=>by obtain⟨o,e⟩:=ar b I;exact bj e
 have I3:=Ii (xs:=xs) (tk:=s2.toks+([]:List (Str×Value)).length) hN hk M O a9 h1 h3 f f2 ar an l ap;have a0:L 0 h₁:=T.keep _ _ _ al λb I o e=>an b o e;generalize V:m3 X xs N' sc cl (s2.heap.objs.size+1) s2 H2 fp=X' at I3;have eP:X'.prog=X.prog:=by rw[<-V];rfl
 have eW:X'.w=X.w:=by rw[<-V];rfl
 have eK:X'.K=X.K:=by rw[<-V];rfl
 have eA:X'.A=X.A:=by rw[<-V];rfl
 have E:X'.env=compEnvC sc cl (s2.heap.objs.size+1) X.env:=by rw[<-V];rfl
 have eC:Cm X':=by rw[<-V];exact hc _ _ _ _ _ _ _ f f2
 have a1:X'.pn=[]:=by rw[<-V];rfl
 have aa:X'.xe=λ_ _=>False:=by rw[<-V];rfl
 have a2:X'.fs=fA X.stack:=by rw[<-V];rfl
 have ba:X'.ex=fp:=by rw[<-V];rfl
 have eS:X'.s₀=s2:=by rw[<-V];rfl
 have bb:∀b∈fp,b∉fA X.stack:=λb I z=>by
  rcases b6.mp (f.stkSub b z) with e |z
  ·exact(f2 b I).2.1 e
  ·exact(f2 b I).2.2.1 z
 have a3:s2.heap.objs.size∉fA X.stack:=λz=>by
  rcases b6.mp (f.stkSub _ z) with e |z
  ·exact absurd (e ▸ f.lt) (gm _)
  ·exact f.nofs (cw _) z
 have Y:∀ {H':Hp} {vs:h7},(∀b∈fp,H' b=none)->∀b∈fp,dX X' [(s2.heap.objs.size,lobj vs)] H' b:=λ{H' vs} hn b I=>by
  refine⟨hn b I,?_,?_,.inl (by rw[ba];exact I),λy c e=>?_,λp t=>?_⟩
  ·rw[E];exact bu (gx (P b I))
  ·rw[a2];exact bb b I
  ·rw[E] at e;exact(f2 b I).2.2.2.2.1 y c (h1 y c e)
  ·rw[a1] at t
   rw[dc.mp (show p∈[(s2.heap.objs.size,lobj vs)] from t)];exact j7 (P b I)
 have loop:∀S:Shared,S={ s2 with heap:=h₁,toks:=s2.toks+([]:List (Str×Value)).length } ->
   codeAny (model X.prog X.w) X.A (.compLoop (.ListComp elt [⟨tg,iter,ifs,0⟩] sc pos) 0 (.ref it) (.ref s2.heap.objs.size) (compEnvC sc cl (s2.heap.objs.size+1) X.env))
    (R) S:=by
  rintro S rfl;refine Ih (λn s'=>∃i σp H' ys vs,σp.length=xs.length/\Inv X' [(s2.heap.objs.size,lobj vs)] (σp++ix.map (λj=>σ.getD j none)) H' s'/\aN ys vs/\L i s'.heap/\(∀b∈fp,H' b=none)/\W i n H' ys) ?_ m0
   ⟨0,xs.map (λ_=>none),H2,[],[],by simp,I3,.nil,a0,λb I=>(f2 b I).1,w0⟩
  rintro n s4 ⟨i,σp,B,ys,vs,hσp,I4,hv4,st4,fr4,w4⟩;rcases turn i n B ys w4 with⟨a4,hl,qn⟩ | ⟨go,step⟩
  ·have D:=T.done X' eP eW eK eC i _ s4 _ B (notedBy (model X.prog X.w) X.A (compEnvC sc cl (s2.heap.objs.size+1) X.env) λe s'=>R (.error e) s') I4 (Y fr4) st4 a4
   rw[eA] at D;refine bK D λr s5 Z=>?_;obtain⟨hr,I5⟩:=Z;subst hr;exact hR s5 B ys vs _ (V ▸ I5) hv4 hl qn
  ·have D:=T.item X' eP eW eK eC i _ s4 _ B (notedBy (model X.prog X.w) X.A (compEnvC sc cl (s2.heap.objs.size+1) X.env) λe s'=>R (.error e) s') I4 (Y fr4) st4 go
   rw[eA] at D;refine bK D λr s5 Z=>?_;obtain⟨u,hr,h5⟩:=Z;subst hr;have bd:wpAny (model X.prog X.w) X.A (letOwnedTupleGo tg (.ref it) u) (λ_ ab=>wpAny (model X.prog X.w) X.A (assign tg (compEnvC sc cl (s2.heap.objs.size+1) X.env) u) (λ_ s₂ =>
     wpAny (model X.prog X.w) X.A (forIn ifs true λc r=>if r=true then do let ok <-isTrue c (compEnvC sc cl (s2.heap.objs.size+1) X.env) (eval c (compEnvC sc cl (s2.heap.objs.size+1) X.env));pure (ForInStep.yield ok) else pure (ForInStep.yield r)) (λok S =>
      if ok=true then wpAny (model X.prog X.w) X.A (eval elt (compEnvC sc cl (s2.heap.objs.size+1) X.env)) (λx a5 =>
       wpAny (model X.prog X.w) X.A (call (.builtin "list.append") [.ref s2.heap.objs.size,x]) (λ_ F=>∃m,m<n/\∃i σp H' ys vs,σp.length=xs.length/\Inv X' [(s2.heap.objs.size,lobj vs)] (σp++ix.map (λj=>σ.getD j none)) H' F/\aN ys vs/\L i F.heap/\(∀b∈fp,H' b=none)/\W i m H' ys)
        (notedBy (model X.prog X.w) X.A (compEnvC sc cl (s2.heap.objs.size+1) X.env) λe s'=>R (.error e) s') a5)
       (notedBy (model X.prog X.w) X.A (compEnvC sc cl (s2.heap.objs.size+1) X.env) λe s'=>R (.error e) s') S
      else ∃m,m<n/\∃i σp H' ys vs,σp.length=xs.length/\Inv X' [(s2.heap.objs.size,lobj vs)] (σp++ix.map (λj=>σ.getD j none)) H' S/\aN ys vs/\L i S.heap/\(∀b∈fp,H' b=none)/\W i m H' ys)
      (notedBy (model X.prog X.w) X.A (compEnvC sc cl (s2.heap.objs.size+1) X.env) λe s'=>R (.error e) s') s₂)
     (notedBy (model X.prog X.w) X.A (compEnvC sc cl (s2.heap.objs.size+1) X.env) λe s'=>R (.error e) s') ab) (notedBy (model X.prog X.w) X.A (compEnvC sc cl (s2.heap.objs.size+1) X.env) λe s'=>R (.error e) s') s5:=by
    refine bK h5 λ_ s6 Z=>?_;obtain⟨z,H6,I6,r6,y6,ag,be⟩:=Z;have bk:=I6.pinned (Y be) (T.obj _ _ ag);have q6:=step z H6 y6 σp hσp;have g6:=(V ▸ hg cl (s2.heap.objs.size+1) s2 H2 fp (hc _ _ _ _ _ _ _ f f2):PG X' tg g) _ s6 _ H6 z u _ bk r6 q6;rw[eP,eW,eA,E] at g6;refine ir g6 (λ_ s7 Z=>?_) (λe s' z=>by rw[aa] at z;exact z.elim);obtain⟨h,H7,I7,U,G,bl,q7⟩:=Z;subst bl;have t7:=(V ▸ a7 cl (s2.heap.objs.size+1) s2 H2 fp (hc _ _ _ _ _ _ _ f f2):gP X' ifs tt) _ s7 _ H7 _ I7 q7;rw[eP,eW,eA,E] at t7;refine ir t7 (λb s8 Z=>?_) (λe s' z=>by rw[aa] at z;exact z.elim);obtain⟨H8,I8,q8⟩:=Z;have a:∀ {s':Shared} {H':Hp} {s:St},Inv X' ([(s2.heap.objs.size,lobj vs)]++nO fp s6.heap) s H' s'->L (i+1) s'.heap/\∀b∈fp,H' b=none:=λ{s' H' s} J'=>by
     refine⟨T.keep _ _ _ ag λb I o e=>(J'.pin (b,o) (cf _ (cf _ (rd I e)))).1,λb I=>?_⟩;obtain⟨o,e,d⟩:=T.obj _ _ ag b I;exact(J'.pin (b,o) (cf _ (cf _ (rd I e)))).2.1
    cases b with
    |false =>
      rw[bw de] at q8 ⊢;obtain⟨k,hm,w8⟩:=q8;obtain⟨k1,k2⟩:=a I8;exact⟨k,hm,i+1,U,H8,ys,vs,G,I8.unpinned,hv4,k1,k2,w8⟩
    |true =>
      rw[am rfl] at q8 ⊢;have t8:=(V ▸ a8 cl (s2.heap.objs.size+1) s2 H2 fp (hc _ _ _ _ _ _ _ f f2):PE X' elt te) _ s8 _ H8 _ I8 q8;rw[eP,eW,eA,E] at t8;refine ir t8 (λv s9 Z=>?_) (λe s' z=>by rw[aa] at z;exact z.elim);obtain⟨y,H9,I9,r9,br,k,hm,w9⟩:=Z;have pD:=I9.pin (s2.heap.objs.size,lobj vs) (cf _ (em _ bi));obtain⟨k1,k2⟩:=a I9;have bs:=hv4.length;refine append_at (D:=s2.heap.objs.size) (its:=vs.toArray) (n:=vs.length) pD.1 (λh' sb hD=>?_) (by rw[bz];lia);have bm:Inv X' [] (U++ix.map (λj=>σ.getD j none)) H9 s9:=I9.pins_of λp t=>nomatch t;have cne:∀y c,X'.env.cells.lookup y=↑c->c≠s2.heap.objs.size:=λy c e=>by
       rw[E] at e;obtain⟨v',q⟩:=f.cell y c (h1 y c e);exact bu q.lt
      have bo:Inv X' [] (U++ix.map (λj=>σ.getD j none)) H9 { s9 with heap:=h' }:=bm.turned (t':=s9.toks) (it:=s2.heap.objs.size) (λb o I e=>(sb.2 b I).trans e) pD.2.1 (by rw[E];exact bu (ft _)) (.inr (by rw[eS];exact cw _)) cne (λp t=>by rw[a1] at t;exact nomatch t);have bp:Inv X' [(s2.heap.objs.size,lobj (vs++[v]))] (U++ix.map (λj=>σ.getD j none)) H9 { s9 with heap:=h' }:=bo.pins_of λp t=>by
       rw[dc.mp t];exact⟨hD.trans (congrArg some (Ig vs v)),pD.2.1,by rw[E];exact bu (ft _),by rw[a2];exact a3,λv' z'=>by cases z'⟩
      exact⟨k,hm,i+1,U,H9,ys++[y],vs++[v],G,bp,hv4.snoc r9,T.keep _ _ _ k1 (λb I o e=>(sb.2 b (bu (P b I))).trans e),k2,w9⟩
   exact bd
 exact codeAny_compStart_list (loop _ rfl) (T.self X.A 0 _ _ _ a0 (loop _ rfl))
def Co(turn:∀i m H ys,W i m H ys ->
   (J.stop i H/\ys.length<=sizeLine/\∀D,H D=none->Q (.ref D) (aX H D (.lst ys))) \/
   (J.go i H/\∀x H',J.yld i H x H'->tt (↑x::ix.map (λj=>σ.getD j none)) H' λb H2 =>
     if b=true then te (↑x::ix.map (λj=>σ.getD j none)) H2 λv V=>ys.length<sizeLine/\∃I,I<m/\W (i+1) I V (ys++[v]) else ∃I,I<m/\W (i+1) I H2 ys)) :
  ∀i m H ys,W i m H ys ->
   (J.stop i H/\ys.length<=sizeLine/\∀D,H D=none->Q (.ref D) (aX H D (.lst ys))) \/
   (J.go i H/\∀v H',J.yld i H v H'->∀σp:St,σp.length=[x].length->n9 0 v (σp++ix.map (λj=>σ.getD j none)) H' λS H1=>∃U:St,U.length=[x].length/\S=U++ix.map (λj=>σ.getD j none)/\tt S H1 λb H2 =>
     if b=true then te S H2 λv V=>ys.length<sizeLine/\∃I,I<m/\W (i+1) I V (ys++[v]) else ∃I,I<m/\W (i+1) I H2 ys):=λi m H ys w=>(turn i m H ys w).imp id λq=>⟨q.1,λv H' y σp Y=>by
 obtain⟨a,rfl⟩:=List.length_eq_one_iff.mp Y;exact⟨[↑v],rfl,rfl,q.2 v H' y⟩⟩
variable{C:Addr}{s₂:Shared}{H₂:Hp}{px:Pos}
def Cp(D:(x::N').Nodup)(I:sc.names.lookup x=some .local):PG (m3 X [x] N' sc cl C s₂ H₂ fp) (.Name x px) (n9 0) :=
 vV (i:=0) D rfl (.inl (i5 I)) (.inr (i5 I))
variable{h:Heap}
def Heap.SameBut.rf(e:∃o,h.get? a=↑o):Heap.SameBut a h h:=by
 first |exact⟨rfl,λ_ _=>rfl⟩ |exact⟨e,λ_ _=>rfl⟩
structure wV (X:Cx) (x:Str) (N':h6) (ix:ic) (sc:Scope):Prop where
 nm:N'=ix.map λi=>X.N.getD i ("" : Str)
 nd:(x::N').Nodup
 kind:sc.kind=.function
 hx:sc.names.lookup x=some .local
 cell:∀y∈sc.names,y.2≠.cell
 names:∀y∈sc.names,y.2=.local->sc.names.lookup y.1=some .local
 free:∀y∈sc.names,y.2=.free->X.env.kindOf y.1=some .cell\/X.env.kindOf y.1=some .free
 fv:∀y∈N',sc.names.lookup y=some .free
variable{wi:TI}
def wW(c:wV X x N' ix sc)(q:∀cl C s₂ H₂ fp pins σ,Inv X pins σ H₂ s₂->(∀b∈fp,dX X pins H₂ b)->Cm (kq X x N' sc cl C s₂ H₂ fp))(hi:jU Cm X (.Name x px) iter wi)(Z:∀cl C s₂ H₂ fp,Cm (kq X x N' sc cl C s₂ H₂ fp)->gP (kq X x N' sc cl C s₂ H₂ fp) ifs tt)(a:∀cl C s₂ H₂ fp,Cm (kq X x N' sc cl C s₂ H₂ fp)->PE (kq X x N' sc cl C s₂ H₂ fp) elt te)(r:∀v,foldedSetIterable iter X.env v=pure v:=by intro _;rfl) :
  PE X (.ListComp elt [⟨.Name x px,iter,ifs,0⟩] sc pos) (xp wi ix tt te):=by
 intro pins s σ H Q I h;obtain⟨cl,d,h1,t⟩:=wQ (sc:=sc) (env:=X.env) (λy f u=>I.ok.has y.1 (c.free y f u));rw[eval_ListComp];refine n6 (use:=none) rfl r d c.kind c.names (bK (hi pins s σ H _ I h) λv M w=>bK w λz s2 h2=>?_);obtain⟨it,fp,N,J,H2,rfl,p,T,U,f2,W,⟨O,A⟩,turn⟩:=h2;refine kt (se c.cell (by intro y f;simp at f) (λh₁ S D=>?_) c.kind);dsimp only at S D ⊢;have V:(s2.heap.push { cls:=.type "list",dict:=none,data:=.seq ([]:h7).toArray }).objs.size=s2.heap.objs.size+1:=jb ..;rw[V] at S D ⊢;have i:∀b o,s2.heap.get? b=↑o->h₁.get? b=↑o:=λb o e=>D.extBut b o (bu (gx (bj e))) (aq _ (aq _ e));have Y:h₁.get? s2.heap.objs.size=↑(lobj []):=D.extBut _ _ (bu (ft _)) (aq _ (cx _ rfl));have j:∀b∈fp,∃o,s2.heap.get? b=↑o:=λb B=>by obtain⟨o,e,_⟩:=T.obj _ _ U b B;exact⟨o,e⟩
 refine wU (xs:=[x]) (g:=n9 0) q Z a (λ_ _ _ _ _ _=>Cp c.nd c.hx) c.nm c.kind c.cell c.names c.free c.fv h1 t p T U f2 A (Co turn) i S Y λP R ys vs E k l F G=>?_;obtain⟨K,m,_⟩:=k.loc;refine⟨K,m,λh' L=>?_⟩;have n:=(k.pin (s2.heap.objs.size,lobj vs) (cf _ bi)).2.1;exact⟨.ref s2.heap.objs.size,_,wT (xs:=[x]) p f2 j k l F L,rfl,G _ n⟩
variable{i:Nat}
def nY{py spos:Pos}(c:wV X x N' ix sc)(hc:∀cl C s₂ H₂ fp pins σ,Inv X pins σ H₂ s₂->(∀b∈fp,dX X pins H₂ b)->Cm (kq X x N' sc cl C s₂ H₂ fp))(n:X.N.Nodup)(q:X.N[i]?=↑y)(r:Loc X.env.scope y)(hi:jU Cm X (.Name x px) iter wi)(t:∀cl C s₂ H₂ fp,Cm (kq X x N' sc cl C s₂ H₂ fp)->gP (kq X x N' sc cl C s₂ H₂ fp) ifs tt)(u:∀cl C s₂ H₂ fp,Cm (kq X x N' sc cl C s₂ H₂ fp)->PE (kq X x N' sc cl C s₂ H₂ fp) elt te)(w:swapsWith (.ListComp elt [⟨.Name x px,iter,ifs,0⟩] sc pos) ↑(.Name y py) spos.line X.env=pure true)(B:X.fn y=true\/X.env.scope.names.lookup y=some .local:=by first |exact .inl rfl |exact .inr rfl |assumption)(hs:∀v,foldedSetIterable iter X.env v=pure v:=by intro _;rfl) :
  PS X (.Assign [.Name y py] (.ListComp elt [⟨.Name x px,iter,ifs,0⟩] sc pos) spos) (fB (xp wi ix tt te) (n9 i)):=by
 intro pins s σ H Dn I h;have h:xp wi ix tt te σ H λv H1=>Dn.nx (σ.set i ↑v) H1:=h;obtain⟨cl,E,h1,h3⟩:=wQ (sc:=sc) (env:=X.env) (λy F B=>I.ok.has y.1 (c.free y F B));rw[exec_Assign_Name_used _ _ _ _ w];refine au (nz (au ?_));show wpAny _ X.A (do let _ <-comprehension (.ListComp elt [⟨.Name x px,iter,ifs,0⟩] sc pos) sc X.env _ (newList []) false (eval iter X.env) ↑(assign (.Name y py) X.env)) _ _ s;refine au (ir (n6 (use:=↑(assign (.Name y py) X.env)) (Q:=λ_ s'=>SP X pins Dn .next s') rfl hs E c.kind c.names
  (bK (hi pins s σ H _ I h) λv s1 g1=>bK g1 λaa s2 h2=>?_)) (λ_ s' hq=>cz (cz hq)) λ_ _ e=>e)
 obtain⟨it,fp,tn,J,H2,rfl,Y,T,Z,f2,W,⟨m0,w0⟩,turn⟩:=h2;refine kt (se c.cell (by intro y F;simp at F) (λh₁ S D=>?_) c.kind);dsimp only at S D ⊢;have d:(s2.heap.push { cls:=.type "list",dict:=none,data:=.seq ([]:h7).toArray }).objs.size=s2.heap.objs.size+1:=jb ..;rw[d] at S D ⊢;have G:∀b o,s2.heap.get? b=↑o->h₁.get? b=↑o:=λb o e=>D.extBut b o (bu (gx (bj e))) (aq _ (aq _ e));have f:h₁.get? s2.heap.objs.size=↑(lobj []):=D.extBut _ _ (bu (ft _)) (aq _ (cx _ rfl));have K:∀b∈fp,∃o,s2.heap.get? b=↑o:=λb L=>by obtain⟨o,e,_⟩:=T.obj _ _ Z b L;exact⟨o,e⟩
 refine wU (xs:=[x]) (g:=n9 0) (Q:=λv H1=>Dn.nx (σ.set i ↑v) H1) hc t u (λ_ _ _ _ _ _=>Cp c.nd c.hx) c.nm c.kind c.cell c.names c.free c.fv h1 h3 Y T Z f2 w0 (Co (Q:=λv H1=>Dn.nx (σ.set i ↑v) H1) turn) G S f λj H4 ys vs ab k M hl qn=>?_;obtain⟨m5,U,_⟩:=k.loc;have U:j.heap.Ns (s2.heap.objs.size+1) m5:=U;have O:=(k.pin (s2.heap.objs.size,lobj vs) (cf _ bi)).2.1;have oC:∃o,j.heap.get? (s2.heap.objs.size+1)=↑o:=let ⟨o,_,_,e,_⟩:=U;⟨o,e⟩;have I6:Inv X pins σ (aX H4 s2.heap.objs.size (.lst ys)) { j with heap:=j.heap }:=wT (xs:=[x]) Y f2 K k M hl (Heap.SameBut.rf oC);show wpAny _ X.A (assign (.Name y py) X.env (.ref s2.heap.objs.size)) _ _ j;have HC:aX H4 s2.heap.objs.size (.lst ys) (s2.heap.objs.size+1)=none:=by rw[i4 (j7 (ft _))];exact k.free
 have V:∀a o,s2.heap.get? a=↑o->s2.heap.objs.size+1≠a:=λa o e=>j7 (gx (bj e));have oL:∃o,s2.heap.get? X.env.locals=↑o:=let ⟨m,hn,_⟩:=Y.loc;let ⟨o,_,_,e,_⟩:=hn;⟨o,e⟩;have cL:s2.heap.objs.size+1≠X.env.locals:=let ⟨o,e⟩:=oL;V _ o e;have cC:∀z l,X.env.cells.lookup z=↑l->l≠s2.heap.objs.size+1:=λz l e=>by
  obtain⟨v',o,e',_⟩:=Y.cell z l e;exact Ne.symm (V _ o e')
 refine wpAny_assign_Name (vN (v:=.ref s2.heap.objs.size) I6 n q r rfl (λs7 I7 zq=>?_) B);obtain⟨a,sb,ha⟩:=zq;have P:s2.heap.objs.size+1≠a:=by
  rcases ha with rfl |ha
  ·exact cL
  ·exact Ne.symm (cC _ _ ha)
 refine⟨m5,U.sameBut sb P,λh' R=>?_⟩;refine⟨_,_,I7.turned (t':=s7.toks) (it:=s2.heap.objs.size+1) (λb o L e=>(R.2 b L).trans e) HC cL (.inr ?_) cC (λp hp=>?_),qn _ O⟩
 ·exact sx Y.sz
 ·exact Ne.symm (V _ _ (Y.pin p hp).1)
structure Cq (X:Cx) (xs N':h6) (ix:ic) (sc:Scope):Prop where
 nm:N'=ix.map λi=>X.N.getD i ("" : Str)
 nd:(xs++N').Nodup
 kind:sc.kind=.function
 hx:∀y∈xs,sc.names.lookup y=some .local
 cell:∀y∈sc.names,y.2≠.cell
 names:∀y∈sc.names,y.2=.local->sc.names.lookup y.1=some .local
 free:∀y∈sc.names,y.2=.free->X.env.kindOf y.1=some .cell\/X.env.kindOf y.1=some .free
 fv:∀y∈N',sc.names.lookup y=some .free
def Ij(c:Cq X xs N' ix sc)(q:X.calm=true)(hi:PI X tg iter wi)(Z:∀cl C s₂ H₂ fp,gP (m3 X xs N' sc cl C s₂ H₂ fp) ifs tt)(a:∀cl C s₂ H₂ fp,PE (m3 X xs N' sc cl C s₂ H₂ fp) elt te)(r:∀cl C s₂ H₂ fp,PG (m3 X xs N' sc cl C s₂ H₂ fp) tg g)(t:∀v,foldedSetIterable iter X.env v=pure v:=by intro _;rfl) :
  PE X (.ListComp elt [⟨tg,iter,ifs,0⟩] sc pos) (Ck xs.length wi g ix tt te):=by
 intro pins s σ H Q I h;obtain⟨cl,d,h1,u⟩:=wQ (sc:=sc) (env:=X.env) (λy f w=>I.ok.has y.1 (c.free y f w));rw[eval_ListComp];refine n6 (use:=none) rfl t d c.kind c.names (bK (hi pins s σ H _ I h) λv M x=>bK x λz s2 h2=>?_);obtain⟨it,fp,N,J,H2,rfl,p,T,U,f2,W,⟨O,A⟩,turn⟩:=h2;refine kt (se c.cell (by intro y f;simp at f) (λh₁ S D=>?_) c.kind);dsimp only at S D ⊢;have V:(s2.heap.push { cls:=.type "list",dict:=none,data:=.seq ([]:h7).toArray }).objs.size=s2.heap.objs.size+1:=jb ..;rw[V] at S D ⊢;have i:∀b o,s2.heap.get? b=↑o->h₁.get? b=↑o:=λb o e=>D.extBut b o (bu (gx (bj e))) (aq _ (aq _ e));have Y:h₁.get? s2.heap.objs.size=↑(lobj []):=D.extBut _ _ (bu (ft _)) (aq _ (cx _ rfl));have j:∀b∈fp,∃o,s2.heap.get? b=↑o:=λb B=>by obtain⟨o,e,_⟩:=T.obj _ _ U b B;exact⟨o,e⟩
 refine wU (Cm:=λX=>X.calm=true) (λ_ _ _ _ _ _ _ _ _=>q) (λ_ _ _ _ _ _=>Z _ _ _ _ _) (λ_ _ _ _ _ _=>a _ _ _ _ _) (λ_ _ _ _ _ _=>r _ _ _ _ _) c.nm c.kind c.cell c.names c.free c.fv h1 u p T U f2 A turn i S Y λP R ys vs E k l F G=>?_;obtain⟨K,m,_⟩:=k.loc;refine⟨K,m,λh' L=>?_⟩;have n:=(k.pin (s2.heap.objs.size,lobj vs) (cf _ bi)).2.1;exact⟨.ref s2.heap.objs.size,_,wT p f2 j k l F L,rfl,G _ n⟩
inductive D where
 |non |bl (b:Bool) |int (i:Int) |str (s:Str) |tup (ds:List D) |lst (ds:List D)
 |dct (ks:ik) (ds:List D)
 |exc (a:Addr)
abbrev k4:=List D
abbrev k6:=Option D
inductive Im where
 |t (vs:kv) |d (kvs:List (dS×V))
@[reducible] noncomputable def Im.out:Im->HO | .t vs=>.tup vs | .d kvs=>.dK kvs
def nZ(ks:ik)(vs:kv):List (dS×V):=ks.zipWith (λk v=>(Sum.inl k,v)) vs
def KL(K:kf)(a:Addr)(xs:kv):Prop :=
 ∃(o:Obj) (its:kn) (n:Nat),K.lookup a=↑o/\o.cls=.type "list"/\o.dict=none/\o.data=.seq its n/\its.size<=sizeLine/\aN xs its.toList
mutual
inductive bB (K:kf) (H:Hp) (O:Addr->Prop):D->V->Prop
 |non:bB K H O .non .non
 |bl (b:Bool):bB K H O (.bl b) (.bl b)
 |int (i:Int):bB K H O ↥i ↥i
 |str (s:Str):bB K H O (.str s) (.str s)
 |tup {a:Addr} {vs:kv} {ds:k4}:H a=↑(.tup vs)->aL K H O ds vs->bB K H O (.tup ds) (.ref a)
 |lst {a:Addr} {vs:kv} {ds:k4}:O a->Rd H a (.lst vs)->aL K H O ds vs->bB K H O (.lst ds) (.ref a)
 |klst {a:Addr} {vs:kv} {ds:k4}:KL K a vs->aL K H O ds vs->bB K H O (.lst ds) (.ref a)
 |dct {a:Addr} {ks:ik} {vs:kv} {ds:k4}:H a=↑(.dK (nZ ks vs))->aL K H O ds vs->bB K H O (.dct ks ds) (.ref a)
 |exc (a:Addr):bB K H O (.exc a) (.ref a)
inductive aL (K:kf) (H:Hp) (O:Addr->Prop):k4->kv->Prop
 |nil:aL K H O [] []
 |cons {d:D} {v:V} {ds:k4} {vs:kv}:bB K H O d v->aL K H O ds vs->aL K H O (d::ds) (v::vs)
end
variable{vs:kv}{ds:k4}{O:Addr->Prop}
def aL.ind{P:k4->kv->Prop}(n:P [] [])(c:∀ {d v ds vs},bB K H O d v->aL K H O ds vs->P ds vs->P (d::ds) (v::vs)):aL K H O ds vs->P ds vs :=
 aL.rec (motive_1:=λ_ _ _=>True) (motive_2:=λds vs _=>P ds vs) ⟨⟩ (λ_=>⟨⟩) (λ_=>⟨⟩) (λ_=>⟨⟩) (λ_ _ _=>⟨⟩) (λ_ _ _ _=>⟨⟩) (λ_ _ _=>⟨⟩) (λ_ _ _=>⟨⟩) (λ_=>⟨⟩) n λr t _=>c r t
variable{v:V}{O':Addr->Prop}
def bB.mono(D:∀a (u:Im),H a=↑u.out->H' a=↑u.out)(I:∀a vs,O a->Rd H a (.lst vs)->O' a/\Rd H' a (.lst vs)):bB K H O d v->bB K H' O' d v :=
 bB.rec (motive_1:=λd v _=>bB K H' O' d v) (motive_2:=λds vs _=>aL K H' O' ds vs) .non .bl .int .str (λh _=>.tup (D _ (.t _) h)) (λo h _=>.lst (I _ _ o h).1 (I _ _ o h).2) (λh _=>.klst h) (λh _=>.dct (D _ (.d _) h)) .exc .nil λ_ _=>.cons
def aL.mono(I:∀a (u:Im),H a=↑u.out->H' a=↑u.out)(S:∀a vs,O a->Rd H a (.lst vs)->O' a/\Rd H' a (.lst vs)){ds:k4}{vs:kv}:aL K H O ds vs->aL K H' O' ds vs:=aL.ind .nil λr _=>.cons (r.mono I S)
def aL.length{ds:k4}{vs:kv}:aL K H O ds vs->ds.length=vs.length:=aL.ind (P:=λds vs=>ds.length=vs.length) rfl λ_ _=>congrArg Nat.succ
def aL.get(h:aL K H O ds vs):ds[i]?=↑d->∃v,vs[i]?=↑v/\bB K H O d v :=
 aL.ind (P:=λds vs=>∀ {i:Nat},ds[i]?=↑d->∃v,vs[i]?=↑v/\bB K H O d v) nofun (λr _ q i e=>match i with
  |0=>⟨_,rfl,b8 e ▸ r⟩ |i+1=>q (i:=i) e) h
variable{es:j0}
def aL.append{es:k4}{ws:kv}(h:aL K H O ds vs)(s:aL K H O es ws):aL K H O (ds++es) (vs++ws):=aL.ind (P:=λds vs=>aL K H O (ds++es) (vs++ws)) s (λr _=>.cons r) h
def aL.take{ds:k4}{vs:kv}(n:Nat)(h:aL K H O ds vs):aL K H O (ds.take n) (vs.take n) :=
 aL.ind (P:=λds vs=>∀n,aL K H O (ds.take n) (vs.take n)) (λn=>by cases n <;> exact .nil) (λr _ q n=>by cases n;exact .nil;exact .cons r (q _)) h n
def aL.drop{ds:k4}{vs:kv}(n:Nat)(h:aL K H O ds vs):aL K H O (ds.drop n) (vs.drop n) :=
 aL.ind (P:=λds vs=>∀n,aL K H O (ds.drop n) (vs.drop n)) (λn=>by cases n <;> exact .nil) (λr t q n=>by cases n;exact .cons r t;exact q _) h n
def aL.set{d:D}{v:V}(r:bB K H O d v){ds:k4}{vs:kv}(i:Nat)(h:aL K H O ds vs):aL K H O (ds.set i d) (vs.set i v) :=
 aL.ind (P:=λds vs=>∀i,aL K H O (ds.set i d) (vs.set i v)) (λ_=>.nil) (λp t q n=>by cases n;exact .cons r t;exact .cons p (q _)) h i
def aL.dropLast(h:aL K H O ds vs):aL K H O ds.dropLast vs.dropLast:=by
 rw[List.dropLast_eq_take,List.dropLast_eq_take,h.length];exact h.take _
def bB.int_{i:Int}(h:bB K H O ↥i v):v=.int i:=by cases h;rfl
def bB.bl_{i:Bool}(h:bB K H O (.bl i) v):v=.bl i:=by cases h;rfl
def bB.str_{i:Str}(h:bB K H O (.str i) v):v=.str i:=by cases h;rfl
def bB.exc_(h:bB K H O (.exc a) v):v=.ref a:=by cases h;rfl
def bB.non_(h:bB K H O .non v):v=.non:=by cases h;rfl
def bB.tup_(h:bB K H O (.tup ds) v):∃a vs,v=.ref a/\H a=↑(.tup vs)/\aL K H O ds vs:=by cases h with |tup a b=>exact⟨_,_,rfl,a,b⟩
def gQ(K:kf)(H:Hp)(O:Addr->Prop)(a:Addr)(vs:kv):Prop:=(O a/\Rd H a (.lst vs))\/KL K a vs
def gQ.sq(h:gQ K H O a vs):dH K H a vs:=h.elim (λz=>.inl z.2) .inr
def bB.lst_(h:bB K H O (.lst ds) v):∃a vs,v=.ref a/\gQ K H O a vs/\aL K H O ds vs:=by
 cases h with
 |lst o a b=>exact⟨_,_,rfl,.inl ⟨o,a⟩,b⟩ |klst a b=>exact⟨_,_,rfl,.inr a,b⟩
inductive Mo where
 |l (vs:kv) |i (C dx:Addr) (fs:List (Str×V))
@[reducible] noncomputable def Mo.out:Mo->HO | .l vs=>.lst vs | .i C dx fs=>.ins C dx fs
inductive Pt where
 |d (d:D) |o (ds:k4)
abbrev k7:=List Pt
inductive AK where
 |ls |ins (b:Bool) (c:Str) (fs:h6)
inductive Sl where
 |sh (d:D) |ow (ds:k4) |o2 (dss:List k4) |ag (k:AK) (r:Option Nat) (ps:k7) |al (r j:Nat) |ro (k:AK) (ps:k7)
abbrev k8:=Option Sl
structure Gd where
 g:Addr->Prop
 r:Nat->ia
instance:CoeFun Gd (λ_=>Addr->Prop):=⟨Gd.g⟩
abbrev gd(g:Addr->Prop):Gd:=⟨g,λ_=>[]⟩
abbrev aP:=List k8
def Ow(G:Gd)(W:Addr->Prop):Addr->Prop:=λa=>G a/\¬W a
def wX(K:kf)(G:Gd)(W:Addr->Prop)(H:Hp)(dss:List k4)(ls:ia):Prop :=
 ls.length=dss.length/\∀(j:Nat) (ds:k4) (a:Addr),dss[j]?=↑ds->ls[j]?=↑a->W a/\∃vs,H a=↑(.lst vs)/\aL K H (Ow G W) ds vs
inductive aY (K:kf) (G:Gd) (W:Addr->Prop) (H:Hp):k7->ia->kv->Prop
 |nil:aY K G W H [] [] []
 |d {d:D} {v:V} {ps:k7} {as:ia} {us:kv}:bB K H (Ow G W) d v->aY K G W H ps as us->aY K G W H (.d d::ps) as (v::us)
 |o {ds:k4} {a:Addr} {vs:kv} {ps:k7} {as:ia} {us:kv}:W a->H a=↑(.lst vs)->aL K H (Ow G W) ds vs->aY K G W H ps as us->aY K G W H (.o ds::ps) (a::as) (.ref a::us)
inductive bH (K:kf) (G:Gd) (W:Addr->Prop) (H:Hp):k7->kv->Prop
 |nil:bH K G W H [] []
 |d {d:D} {v:V} {ps:k7} {us:kv}:bB K H (Ow G W) d v->bH K G W H ps us->bH K G W H (.d d::ps) (v::us)
 |o {ds:k4} {a:Addr} {vs:kv} {ps:k7} {us:kv}:¬W a->H a=↑(.lst vs)->aL K H (Ow G W) ds vs->bH K G W H ps us->bH K G W H (.o ds::ps) (.ref a::us)
def dZ(K:kf)(H:Hp):AK->Addr->kv->Prop
 | .ls,p,us=>H p=↑(.lst us) | .ins _ c fs,p,us=>∃C dx,PySem.W.nsIn K mainGlobals c=↑↑(.ref C)/\H p=↑(.ins C dx (fs.zip us))/\fs.length=us.length
def jY:AK->ia->Addr->ia->Prop
 | .ins true _ _,l,p,_=>l=[p]
 |_,l,p,as=>l=p::as
inductive n_ (K:kf) (G:Gd) (W:Addr->Prop) (H:Hp) (ds:k4) (v:V):Prop
 |mk (l:Addr) (vs:kv) (e:v=.ref l) (w:W l) (h:H l=↑(.lst vs)) (r:aL K H (Ow G W) ds vs):n_ K G W H ds v
inductive ot (K:kf) (G:Gd) (W:Addr->Prop) (H:Hp) (dss:List k4) (v:V):Prop
 |mk (l:Addr) (ls:ia) (e:v=.ref l) (w:W l) (h:H l=↑(.lst (ls.map V.ref))) (n:(l::ls).Nodup) (r:wX K G W H dss ls):ot K G W H dss v
inductive ou (K:kf) (G:Gd) (W:Addr->Prop) (H:Hp) (k:AK) (r:Option Nat) (ps:k7) (v:V):Prop
 |mk (p:Addr) (as:ia) (us:kv) (e:v=.ref p) (w:W p) (n:(p::as).Nodup) (l:∀n,r=↑n->jY k (G.r n) p as) (h:dZ K H k p us) (q:aY K G W H ps as us):ou K G W H k r ps v
def dU(K:kf)(G:Gd)(W:Addr->Prop)(H:Hp):Sl->V->Prop
 | .sh d,v=>bB K H (Ow G W) d v | .ow ds,v=>n_ K G W H ds v | .o2 dss,v=>ot K G W H dss v | .ag k r ps,v=>ou K G W H k r ps v | .al r j,v=>∃p as a,G.r r=p::as/\as[j]?=↑a/\v=.ref a | .ro k ps,v=>∃(p:Addr) (us:kv),v=.ref p/\¬W p/\dZ K H k p us/\bH K G W H ps us
def rG:k7->kv->Addr->Prop:=λps us a=>∃(j:Nat) (ds:k4),ps[j]?=↑(.o ds)/\us[j]?=↑(.ref a)
def wY(H:Hp):AK->Addr->kv->Prop
 | .ls,p,us=>H p=↑(.lst us) | .ins _ _ fs,p,us=>fs.length=us.length/\∃C dx,H p=↑(.ins C dx (fs.zip us))
def bO(H:Hp):Sl->V->Addr->Prop
 | .sh _,_,_=>False | .ow _,v,a=>v=.ref a | .o2 _,v,a=>v=.ref a\/∃(l:Addr) (ls:ia),v=.ref l/\H l=↑(.lst (ls.map V.ref))/\a∈ls
 | .ag k _ ps,v,a=>v=.ref a\/∃(p:Addr) (us:kv),v=.ref p/\wY H k p us/\rG ps us a | .al _ _,_,_=>False | .ro _ _,_,_=>False
structure Ok (K:kf) (G:Gd) (H0:Hp) (W:Addr->Prop) (env:aP) (σ:St) (H:Hp):Prop where
 stay:bC H0 H
 good:∀a,H0 a=none->G a
 wl:∀l,W l->H0 l=none/\∃m:Mo,H l=↑m.out
 slot:∀(i:Nat) (s:Sl),env[i]?=↑↑s->∃v,σ[i]?=↑↑v/\dU K G W H s v
 uniq:∀(i j:Nat) (s s':Sl) (v v':V) (a:Addr),env[i]?=↑↑s->env[j]?=↑↑s'->σ[i]?=↑↑v->σ[j]?=↑↑v'->bO H s v a->bO H s' v' a->i=j
 len:env.length=σ.length
variable{ls:ia}
def zf{D:ia}(h:ls.map V.ref=D.map V.ref):ls=D:=by
 induction ls generalizing D with
 |nil=>cases D with |nil=>rfl |cons b r=>cases h
 |cons a t ih=>cases D with |nil=>cases h |cons b r=>simp[List.cons.injEq,V.ref.injEq] at h;rw[h.1,ih h.2]
variable{W:Addr->Prop}{G:Gd}{ps:k7}{as:ia}{us:kv}
def aY.own(h:aY K G W H ps as us)(ha:a∈as):W a/\∃vs,H a=↑(.lst vs):=by
 induction h with
 |nil=>cases ha
 |d _ _ ih=>exact ih ha |o hW hl _ _ ih =>
   rcases b6.mp ha with rfl |ha
   ·exact⟨hW,_,hl⟩
   ·exact ih ha
def aY.parts_iff(h:aY K G W H ps as us):rG ps us a↔a∈as:=by
 induction h with
 |nil=>exact⟨λ⟨j,ds,e,_⟩=>by simp at e,λz=>by cases z⟩
 |d _ _ ih =>
   rw[<-ih];constructor
   ·rintro⟨j,ds,I,D⟩
    cases j with
    |zero=>simp at I |succ j=>exact⟨j,ds,by simpa using I,by simpa using D⟩
   ·rintro⟨j,ds,I,D⟩
    exact⟨j+1,ds,by simpa using I,by simpa using D⟩
 |o _ _ _ _ ih =>
   rw[b6,<-ih];constructor
   ·rintro⟨j,ds,I,D⟩
    cases j with
    |zero=>simp at D;exact .inl D.symm |succ j=>exact .inr ⟨j,ds,by simpa using I,by simpa using D⟩
   ·rintro(rfl | ⟨j,ds,I,D⟩)
    ·exact⟨0,_,rfl,rfl⟩
    ·exact⟨j+1,ds,by simpa using I,by simpa using D⟩
variable{G':Gd}{W':Addr->Prop}
protected def aY.step(h:aY K G W H ps as us)(k:∀a vs,a∈as->H a=↑(.lst vs)->W' a/\H' a=↑(.lst vs))(r:∀d v,bB K H (Ow G W) d v->bB K H' (Ow G' W') d v)(D:∀ds vs,aL K H (Ow G W) ds vs->aL K H' (Ow G' W') ds vs):aY K G' W' H' ps as us:=by
 induction h with
 |nil=>exact .nil |d q _ ih=>exact .d (r _ _ q) (ih k) |o hW hl q _ ih =>
   obtain⟨I,S⟩:=k _ _ bi hl;exact .o I S (D _ _ q) (ih λa vs U=>k a vs (bg _ U))
protected def bH.step(h:bH K G W H ps us)(k:∀a vs,¬W a->H a=↑(.lst vs)->¬W' a/\H' a=↑(.lst vs))(r:∀d v,bB K H (Ow G W) d v->bB K H' (Ow G' W') d v)(D:∀ds vs,aL K H (Ow G W) ds vs->aL K H' (Ow G' W') ds vs):bH K G' W' H' ps us:=by
 induction h with
 |nil=>exact .nil |d q _ ih=>exact .d (r _ _ q) ih |o hW hl q _ ih=>obtain⟨I,S⟩:=k _ _ hW hl;exact .o I S (D _ _ q) ih
variable{j:Nat}
def bH.get(h:bH K G W H ps us)(e:ps[j]?=↑(.o ds)):∃a vs,us[j]?=↑(.ref a)/\¬W a/\H a=↑(.lst vs)/\aL K H (Ow G W) ds vs:=by
 induction h generalizing j with
 |nil=>simp at e |d _ _ ih =>
   cases j with
   |zero=>simp at e |succ j=>obtain⟨a,vs,h1,h2⟩:=ih (j:=j) (by simpa using e);exact⟨a,vs,by simpa using h1,h2⟩
 | @o _ a vs _ _ hW hl r _ ih =>
   cases j with
   |zero=>simp at e;subst e;exact⟨a,vs,rfl,hW,hl,r⟩ |succ j=>obtain⟨a,vs,h1,h2⟩:=ih (j:=j) (by simpa using e);exact⟨a,vs,by simpa using h1,h2⟩
def bH.getD(h:bH K G W H ps us)(e:ps[j]?=↑(.d d)):∃v,us[j]?=↑v/\bB K H (Ow G W) d v:=by
 induction h generalizing j with
 |nil=>simp at e |d q _ ih =>
   cases j with
   |zero=>simp at e;subst e;exact⟨_,rfl,q⟩ |succ j=>obtain⟨a,h1,h2⟩:=ih (j:=j) (by simpa using e);exact⟨a,by simpa using h1,h2⟩
 |o _ _ _ _ ih =>
   cases j with
   |zero=>simp at e |succ j=>obtain⟨a,h1,h2⟩:=ih (j:=j) (by simpa using e);exact⟨a,by simpa using h1,h2⟩
variable{k:AK}{p:Addr}
theorem yu{D:kv}(h:dZ K H k p us)(h':wY H k p D):D=us:=by
 cases k with
 |ls=>have h:H p=_:=h;have h':H p=_:=h';rw[h] at h';cases h';rfl
 |ins b c fs =>
   obtain⟨C,dx,_,I,U⟩:=h;obtain⟨l',Y,S,e⟩:=h';rw[I] at e;have e:fs.zip us=fs.zip D:=by injection e with e;injection e
   have:=congrArg (List.map Prod.snd) e;rw[List.map_snd_zip ∅,List.map_snd_zip ∅] at this;exact this.symm
protected def dZ.o{K:kf}{H:Hp}{k:AK}{p:Addr}{us:kv}(h:dZ K H k p us):wY H k p us:=by
 cases k with
 |ls=>exact h |ins b c fs=>obtain⟨C,dx,_,D,I⟩:=h;exact⟨I,C,dx,D⟩
def dZ.mo(h:dZ K H k p us):∃m:Mo,H p=↑m.out/\∀H',H' p=↑m.out->dZ K H' k p us:=by
 cases k with
 |ls=>exact⟨.l us,h,λH' e=>e⟩ |ins b c fs=>obtain⟨C,dx,D,I,S⟩:=h;exact⟨.i C dx (fs.zip us),I,λH' e=>⟨C,dx,D,e,S⟩⟩
def dU.owns(h:dU K G W H s v)(o:bO H s v a):W a:=by
 cases s with
 |sh d=>exact o.elim |ow ds=>obtain⟨l,vs,e,D,_⟩:=h;rw[show v=.ref a from o] at e;cases e;exact D
 |o2 dss =>
   obtain⟨l,ls,e,D,V,Y,hi⟩:=h;rcases o with o | ⟨l',ls',e',hl',ha⟩
   ·rw[o] at e;cases e;exact D
   ·rw[e] at e';cases e'
    rw[V] at hl';have:=zf (by simpa using hl');subst this;obtain⟨j,S,Z⟩:=p9 ha;have I:j<dss.length:=by rw[<-hi.1];exact S
    exact(hi.2 j dss[j] a (by simp[I]) (by simp[S,Z])).1
 |ag k r ps =>
   obtain⟨p,as,us,e,D,Y,c,b,U⟩:=h;rcases o with o | ⟨p',us',e',hk',ha⟩
   ·rw[o] at e;cases e;exact D
   ·rw[e] at e';cases e'
    rw[yu b hk'] at ha;exact(U.own (U.parts_iff.mp ha)).1
 |al _ _=>exact o.elim |ro _ _=>exact o.elim
def dU.back(h:dU K G W H s v)(k:∀l,v=.ref l->W l->∀m:Mo,H l=↑m.out->H' l=↑m.out)(o:bO H' s v a):bO H s v a:=by
 cases s with
 |sh d=>exact o.elim |ow ds=>exact o |o2 dss =>
   obtain⟨l,ls,e,D,I,U,hi⟩:=h;rcases o with o | ⟨l',ls',e',hl',ha⟩
   ·exact .inl o
   ·rw[e] at e';cases e'
    rw[k l e D (.l _) I] at hl';have:=zf (by simpa using hl');subst this;exact .inr ⟨l,ls,e,I,ha⟩
 |ag q r ps =>
   obtain⟨p,as,us,e,D,U,Z,S,b⟩:=h;rcases o with o | ⟨p',us',e',hk',ha⟩
   ·exact .inl o
   ·rw[e] at e';cases e'
    obtain⟨m,V,Y⟩:=S.mo;rw[yu (Y H' (k p e D m V)) hk'] at ha;exact .inr ⟨p,us,e,S.o,ha⟩
 |al _ _=>exact o.elim |ro _ _=>exact o.elim
structure Step (W:Addr->Prop) (H:Hp) (W':Addr->Prop) (H':Hp):Prop where
 keep:∀b o,H b=↑o->¬W b->H' b=↑o
 ws:∀l,W' l->W l\/H l=none
def Step.refl:Step W H W H:=⟨λ_ _ e _=>e,λ_ h=>.inl h⟩
variable{W1:Addr->Prop}
def Step.trans{D:Addr->Prop}(a:Step W H W1 H1)(b:Step W1 H1 D H2):Step W H D H2 where
 keep:=λc o e n=>b.keep c o (a.keep c o e n) λz=>(a.ws c z).elim n λq=>by rw[q] at e;cases e
 ws:=λl h=>by
  rcases b.ws l h with z |z
  ·exact a.ws l z
  ·by_cases n:W l
   ·exact .inl n
   ·cases e:H l with
    |none=>exact .inr rfl |some o=>rw[a.keep l o e n] at z;cases z
def Step.same(h:bC H H'):Step W H W H':=⟨λb o e _=>h b o e,λ_ h=>.inl h⟩
variable{env:aP}{H0:Hp}
def Ok.wkeep(ok:Ok K G H0 W env σ H)(st:Step W H W' H'):∀b o,H b=↑o->(∀m:Mo,o≠m.out)->H' b=↑o:=λb o e n =>
 st.keep b o e λz=>by obtain⟨_,m,q⟩:=ok.wl b z;rw[e] at q;exact n m (b8 q)
def Rd.keep{u:HO}(h:Rd H a u)(k:∀o,H a=↑o->H' a=↑o):Rd H' a u:=by
 rcases h with h | ⟨o,h⟩
 ·exact .inl (k _ h)
 ·exact .inr ⟨o,k _ h⟩
def Ok.tstep(ok:Ok K G H0 W env σ H)(st:Step W H W' H'):∀a vs,H a=↑(.tup vs)->H' a=↑(.tup vs):=λ_ _ h=>ok.wkeep st _ _ h λm z=>by cases m <;> cases z
def Ok.istep(ok:Ok K G H0 W env σ H)(st:Step W H W' H'):∀a (u:Im),H a=↑u.out->H' a=↑u.out:=λ_ u h=>ok.wkeep st _ _ h λm z=>by cases u <;> cases m <;> cases z
def Ok.lstep(ok:Ok K G H0 W env σ H)(st:Step W H W' H'):∀a vs,Ow G W a->Rd H a (.lst vs)->Ow G W' a/\Rd H' a (.lst vs):=λa vs o h=>by
 refine⟨⟨o.1,λz=>?_⟩,h.keep λu e=>st.keep a u e o.2⟩;rcases st.ws a z with q |q
 ·exact o.2 q
 ·rcases h with h | ⟨_,h⟩ <;> rw[q] at h <;> cases h
def Ok.lsstep(ok:Ok K G H0 W env σ H)(st:Step W H W' H')(h:gQ K H (Ow G W) a vs):gQ K H' (Ow G W') a vs:=h.elim (λz=>.inl (ok.lstep st a vs z.1 z.2)) .inr
def Ok.rep(ok:Ok K G H0 W env σ H)(st:Step W H W' H')(r:bB K H (Ow G W) d v):bB K H' (Ow G W') d v:=r.mono (ok.istep st) (ok.lstep st)
def Ok.reps(ok:Ok K G H0 W env σ H)(st:Step W H W' H'){d:k4}{v:kv}(r:aL K H (Ow G W) d v):aL K H' (Ow G W') d v:=r.mono (ok.istep st) (ok.lstep st)
def Ok.slstep(ok:Ok K G H0 W env σ H)(st:Step W H W' H')(h:dU K G W H s v)(k:∀a (m:Mo),bO H s v a->H a=↑m.out->W' a/\H' a=↑m.out):dU K G W' H' s v:=by
 cases s with
 |sh d=>exact ok.rep st h |ow ds =>
   obtain⟨l,vs,e,I,U,r⟩:=h;obtain⟨h1,h2⟩:=k l (.l vs) e U;exact⟨l,vs,e,h1,h2,ok.reps st r⟩
 |o2 dss =>
   obtain⟨l,ls,e,I,U,b,hi⟩:=h;obtain⟨h1,h2⟩:=k l (.l _) (.inl e) U;have i:∀a vs,a∈ls->H a=↑(.lst vs)->W' a/\H' a=↑(.lst vs):=λa vs S D=>k a (.l vs) (.inr ⟨l,ls,e,U,S⟩) D;refine⟨l,ls,e,h1,h2,b,hi.1,λj ds a t D=>?_⟩;obtain⟨_,vs,S,u⟩:=hi.2 j ds a t D;obtain⟨k1,k2⟩:=i a vs (bh D) S;exact⟨k1,vs,k2,ok.reps st u⟩
 |ag q r ps =>
   obtain⟨p,as,us,e,I,b,w,V,Y⟩:=h;obtain⟨m,Z,c⟩:=V.mo;obtain⟨h1,h2⟩:=k p m (.inl e) Z;exact⟨p,as,us,e,h1,b,w,c H' h2,Y.step (λa vs S D=>k a (.l vs) (.inr ⟨p,us,e,V.o,Y.parts_iff.mpr S⟩) D) (λ_ _ r=>ok.rep st r) λ_ _ r=>ok.reps st r⟩
 |al _ _=>exact h |ro q ps =>
   obtain⟨p,us,e,I,V,Y⟩:=h;have f:∀a o,¬W a->H a=↑o->¬W' a:=λa o n e z=>(st.ws a z).elim n λy=>by rw[y] at e;cases e
   obtain⟨m,Z,c⟩:=V.mo;exact⟨p,us,e,f p _ I Z,c H' (st.keep p _ Z I),Y.step (λa vs g D=>⟨f a _ g D,st.keep a _ D g⟩) (λ_ _ r=>ok.rep st r) λ_ _ r=>ok.reps st r⟩
def Ok.same(ok:Ok K G H0 W env σ H)(s:bC H H'):Ok K G H0 W env σ H':=by
 have st:Step W H W H':=Step.same s;have bk:∀ {i:Nat} {sl:Sl} {v:V} {a:Addr},env[i]?=↑↑sl->σ[i]?=↑↑v->bO H' sl v a->bO H sl v a:=λ{i sl v a} e I o=>by
  obtain⟨d,D,h⟩:=ok.slot i sl e;rw[I] at D;cases D;exact h.back (λl _ _ vs q=>s l _ q) o
 refine⟨ok.stay.trans s,ok.good,λl h=>?_,λi sl e=>?_,λi j Y s2 v1 v2 a I D S U Z c=>ok.uniq i j Y s2 v1 v2 a I D S U (bk I S Z) (bk D U c),ok.len⟩
 ·obtain⟨a,vs,b⟩:=ok.wl l h
  exact⟨a,vs,s _ _ b⟩
 ·obtain⟨v,I,h⟩:=ok.slot i sl e
  exact⟨v,I,ok.slstep st h λa vs o D=>⟨h.owns o,s _ _ D⟩⟩
def uz{o:HO}(h:H a=none):bC H (aX H a o):=λb u e=>by rw[i4 (ql e h)];exact e
def cE(W:Addr->Prop)(l:Addr):Addr->Prop:=λa=>W a\/a=l
def Ok.fresh0(ok:Ok K G H0 W env σ H)(s:bC H H')(D:H l=none)(I:H' l=↑(.lst vs)) :
  ¬W l/\H0 l=none/\Ok K G H0 (cE W l) env σ H'/\Step W H (cE W l) H':=by
 have U:H0 l=none:=ok.stay.free D;have V:¬W l:=λz=>by obtain⟨_,vs,q⟩:=ok.wl l z;rw[D] at q;cases q
 have st:Step W H (cE W l) H':=⟨λb o e _=>s b o e,λa z=>z.elim .inl λq=>.inr (by rw[q];exact D)⟩;have S:=ok.same s;refine⟨V,U,⟨ok.stay.trans s,ok.good,λa z=>?_,λi sl e=>?_,S.uniq,ok.len⟩,st⟩
 ·rcases z with z |rfl
  ·obtain⟨q,us,b⟩:=ok.wl a z
   exact⟨q,us,s _ _ b⟩
  ·exact⟨U,.l vs,I⟩
 ·obtain⟨v,Y,h⟩:=ok.slot i sl e
  exact⟨v,Y,ok.slstep st h λa vs o Z=>⟨.inl (h.owns o),s _ _ Z⟩⟩
def Ok.fresh(ok:Ok K G H0 W env σ H)(s:bC H H')(D:H l=none)(I:H' l=↑(.lst vs))(r:aL K H' (λa=>(Ow G W a\/H a=none)/\a≠l) ds vs) :
  ¬W l/\H0 l=none/\Ok K G H0 (cE W l) env σ H'/\aL K H' (Ow G (cE W l)) ds vs/\Step W H (cE W l) H':=by
 have U:H0 l=none:=ok.stay.free D;have V:¬W l:=λz=>by obtain⟨_,vs,q⟩:=ok.wl l z;rw[D] at q;cases q
 have st:Step W H (cE W l) H':=⟨λb o e _=>s b o e,λa z=>z.elim .inl λq=>.inr (by rw[q];exact D)⟩;have Y:∀a,W a->H a≠none:=λa z q=>by obtain⟨_,vs,e⟩:=ok.wl a z;rw[q] at e;cases e
 have S:=ok.same s;refine⟨V,U,⟨ok.stay.trans s,ok.good,λa z=>?_,λi sl e=>?_,S.uniq,ok.len⟩,r.mono (λ_ _ h=>h) λa us o h=>⟨⟨?_,?_⟩,h⟩,st⟩
 ·rcases z with z |rfl
  ·obtain⟨q,us,b⟩:=ok.wl a z
   exact⟨q,us,s _ _ b⟩
  ·exact⟨U,.l vs,I⟩
 ·obtain⟨v,Z,h⟩:=ok.slot i sl e
  exact⟨v,Z,ok.slstep st h λa vs o c=>⟨.inl (h.owns o),s _ _ c⟩⟩
 ·rcases o.1 with q |q
  ·exact q.1
  ·exact ok.good a (ok.stay.free q)
 ·rintro(z |z)
  ·rcases o.1 with q |q
   ·exact q.2 z
   ·exact Y a z q
  ·exact o.2 z
def Ok.noOwn(ok:Ok K G H0 W env σ H)(I:¬W l):∀(j:Nat) (s:Sl) (v:V),env[j]?=↑↑s->σ[j]?=↑↑v->¬bO H s v l:=λj s v e S o=>by
 obtain⟨U,D,h⟩:=ok.slot j s e;rw[S] at D;cases D;exact I (h.owns o)
variable{α:Type}
def wZ{N:List α}(D:N.Nodup){x:α}(a:N[i]?=↑x)(b:N[j]?=↑x):i=j:=by
 obtain⟨h1,I⟩:=aj.mp a;obtain⟨h2,S⟩:=aj.mp b;exact(List.getElem_inj D).mp (I.trans S.symm)
theorem qy{xs:List α}{x y:α}(h:(xs.set i x)[j]?=↑y):(i=j/\y=x/\i<xs.length)\/(i≠j/\xs[j]?=↑y):=by
 by_cases D:i=j
 ·subst D
  by_cases hi:i<xs.length
  ·rw[fb hi] at h;cases h;exact .inl ⟨rfl,rfl,hi⟩
  ·rw[dq (by rw[d6];lia)] at h;cases h
 ·rw[dy D] at h;exact .inr ⟨D,h⟩
def Ok.put(ok:Ok K G H0 W env σ H)(h:dU K G W H s v)(c:∀(j:Nat) (s':Sl) (d:V) (a:Addr),env[j]?=↑↑s'->σ[j]?=↑↑d->bO H s v a->¬bO H s' d a) :
  Ok K G H0 W (env.set i ↑s) (σ.set i ↑v) H:=by
 refine⟨ok.stay,ok.good,ok.wl,λj sl e=>?_,λj k f s2 v1 v2 a Y g D I Z b=>?_,by rw[d6,d6,ok.len]⟩
 ·rcases qy e with⟨rfl,q,hi⟩ | ⟨hj,q⟩
  ·cases q
   exact⟨v,fb (by rw[<-ok.len];exact hi),h⟩
  ·obtain⟨u,Y,r⟩:=ok.slot j sl q
   exact⟨u,by rw[dy hj];exact Y,r⟩
 ·rcases qy Y with⟨a1,b1,c1⟩ | ⟨a1,b1⟩ <;> rcases qy g with⟨S,U,l⟩ | ⟨S,U⟩
  ·rw[<-a1,<-S]
  ·subst a1
   cases b1;rw[fb (by rw[<-ok.len];exact c1)] at D;cases D;rw[dy S] at I;exact absurd b (c k s2 v2 a U I Z)
  ·subst S
   cases U;rw[fb (by rw[<-ok.len];exact l)] at I;cases I;rw[dy a1] at D;exact absurd Z (c j f v1 a b1 D b)
  ·rw[dy a1] at D
   rw[dy S] at I;exact ok.uniq j k f s2 v1 v2 a b1 U D I Z b
def Ok.set(ok:Ok K G H0 W env σ H)(r:bB K H (Ow G W) d v):Ok K G H0 W (env.set i ⇑d) (σ.set i ↑v) H :=
 ok.put (s:=.sh d) r λ_ _ _ _ _ _ o=>o.elim
def Ok.setO(ok:Ok K G H0 W env σ H)(D:W l)(I:H l=↑(.lst vs))(r:aL K H (Ow G W) ds vs)(S:∀(j:Nat) (s:Sl) (v:V),env[j]?=↑↑s->σ[j]?=↑↑v->¬bO H s v l) :
  Ok K G H0 W (env.set i ↑(.ow ds)) (σ.set i ↑(.ref l)) H :=
 ok.put (s:=.ow ds) ⟨l,vs,rfl,D,I,r⟩ λj s' U a e Y o=>by
  have:l=a:=by have o:V.ref l=V.ref a:=o;simpa using o
  subst this;exact S j s' U e Y
def Ok.let(ok:Ok K G H0 W env σ H)(e:env[i]?=↑↑s)(Y:σ[i]?=↑↑v)(W':Addr->Prop)(I:∀a,W' a↔W a/\¬bO H s v a)(r:bB K H (Ow G W') d v) :
  Step W H W' H/\Ok K G H0 W' (env.set i ⇑d) σ H:=by
 have st:Step W H W' H:=⟨λb o q _=>q,λa z=>.inl ((I a).mp z).1⟩;refine⟨st,⟨ok.stay,ok.good,λa z=>ok.wl a ((I a).mp z).1,λj sl q=>?_,λj k g s2 v1 v2 a l S m n Z c=>?_,by rw[d6,ok.len]⟩⟩
 ·rcases qy q with⟨rfl,D,_⟩ | ⟨hj,D⟩
  ·cases D
   exact⟨v,Y,r⟩
  ·obtain⟨u,f,h⟩:=ok.slot j sl D
   exact⟨u,f,ok.slstep st h λa vs o S=>⟨(I a).mpr ⟨h.owns o,λz=>hj (ok.uniq i j s sl v u a e D Y f z o)⟩,S⟩⟩
 ·rcases qy l with⟨_,U,_⟩ | ⟨a1,U⟩
  ·cases U;exact Z.elim
  ·rcases qy S with⟨_,V,_⟩ | ⟨a2,V⟩
   ·cases V;exact c.elim
   ·exact ok.uniq j k g s2 v1 v2 a U V m n Z c
def Ok.share(ok:Ok K G H0 W env σ H)(e:env[i]?=↑↑(.ow ds)) :
  ∃W' v,σ[i]?=↑↑v/\Step W H W' H/\Ok K G H0 W' (env.set i ⇑(.lst ds)) σ H/\bB K H (Ow G W') (.lst ds) v:=by
 obtain⟨v,I,l,vs,rfl,U,V,r⟩:=ok.slot i _ e;have S:bB K H (Ow G λa=>W a/\¬bO H (.ow ds) (.ref l) a) (.lst ds) (.ref l) :=
  .lst ⟨ok.good l (ok.wl l U).1,λz=>z.2 rfl⟩ (.inl V) (r.mono (λ_ _ h=>h) λa us o h=>⟨⟨o.1,λz=>o.2 z.1⟩,h⟩)
 obtain⟨st,D⟩:=ok.let e I _ (λa=>Iff.rfl) S;exact⟨_,.ref l,I,st,D,S⟩
def w_:∀ {dss:List k4} {ls:ia},wX K G W H dss ls->(∀a,a∈ls->W a->G a/\¬W' a)->(∀ds vs,aL K H (Ow G W) ds vs->aL K H (Ow G W') ds vs)->aL K H (Ow G W') (dss.map D.lst) (ls.map V.ref)
 | [],[],_,_,_=>.nil |ds::dss,a::ls,h,g,r=>by
   obtain⟨U,vs,Y,Z⟩:=h.2 0 ds a rfl rfl;refine .cons (.lst (g a bi U) (.inl Y) (r _ _ Z)) (w_ (dss:=dss) (ls:=ls) ⟨sj h.1,λj ds' I b c=>h.2 (j+1) ds' I (by simpa using b) (by simpa using c)⟩ (λI S=>g I (bg _ S)) r)
variable{dss:List k4}
def Ok.share2(ok:Ok K G H0 W env σ H)(e:env[i]?=↑↑(.o2 dss)) :
  ∃W' v,σ[i]?=↑↑v/\Step W H W' H/\Ok K G H0 W' (env.set i ⇑(.lst (dss.map D.lst))) σ H/\bB K H (Ow G W') (.lst (dss.map D.lst)) v:=by
 obtain⟨v,S,l,ls,rfl,Y,U,c,hi⟩:=ok.slot i _ e;have V:bB K H (Ow G λa=>W a/\¬bO H (.o2 dss) (.ref l) a) (.lst (dss.map D.lst)) (.ref l) :=
  .lst ⟨ok.good l (ok.wl l Y).1,λz=>z.2 (.inl rfl)⟩ (.inl U) (w_ hi (λa Z b=>⟨ok.good a (ok.wl a b).1,λz=>z.2 (.inr ⟨l,ls,rfl,U,Z⟩)⟩) λds vs r=>r.mono (λ_ _ h=>h) λa us o h=>⟨⟨o.1,λz=>o.2 z.1⟩,h⟩)
 obtain⟨st,I⟩:=ok.let e S _ (λa=>Iff.rfl) V;exact⟨_,.ref l,S,st,I,V⟩
def Ok.chg(ok:Ok K G H0 W env σ H){s':Sl}(S:Mo)(e:env[i]?=↑↑s)(r:σ[i]?=↑↑v)(x:bO H s v a)(y:dU K G W (aX H a S.out) s' v)(t:∀b,bO (aX H a S.out) s' v b->bO H s v b):Ok K G H0 W (env.set i ↑s') σ (aX H a S.out)/\Step W H W (aX H a S.out):=by
 have c:W a:=by obtain⟨M,f,h⟩:=ok.slot i s e;rw[r] at f;cases f;exact h.owns x
 have st:Step W H W (aX H a S.out):=⟨λb o q n=>by rw[i4 (λz:b=a=>n (by rw[z];exact c))];exact q,λb z=>.inl z⟩;have w:∀ {j:Nat} {sl:Sl} {u:V} {b:Addr},i≠j->env[j]?=↑↑sl->σ[j]?=↑↑u->bO H sl u b->b≠a:=λ{j sl u b} hj q D o z=>by
  subst z;exact hj (ok.uniq i j s sl v u b e q r D x o)
 have bk:∀ {j:Nat} {sl:Sl} {u:V} {b:Addr},i≠j->env[j]?=↑↑sl->σ[j]?=↑↑u->bO (aX H a S.out) sl u b->bO H sl u b:=λ{j sl u b} hj q D o=>by
  obtain⟨N,U,h⟩:=ok.slot j sl q;rw[D] at U;cases U;cases sl with
  |sh d=>exact o.elim |ow ds=>exact o |o2 dss=>exact h.back (λl Y _ vs Z=>by rw[i4 (w hj q D (.inl Y))];exact Z) o |ag k p ps=>exact h.back (λl Y _ vs Z=>by rw[i4 (w hj q D (.inl Y))];exact Z) o |al _ _=>exact o.elim |ro _ _=>exact o.elim
 refine⟨⟨λb o q=>?_,ok.good,λb z=>?_,λj sl q=>?_,λj k O s2 v1 v2 b D U Y Z A o2=>?_,by rw[d6,ok.len]⟩,st⟩
 ·rw[i4 (λz=>by rw[z,(ok.wl a c).1] at q;cases q)];exact ok.stay b o q
 ·obtain⟨q,us,t⟩:=ok.wl b z
  by_cases h:b=a
  ·exact⟨q,S,by rw[h,md]⟩
  ·exact⟨q,us,by rw[i4 h];exact t⟩
 ·rcases qy q with⟨rfl,I,_⟩ | ⟨hj,I⟩
  ·cases I
   exact⟨v,r,y⟩
  ·obtain⟨u,f,h⟩:=ok.slot j sl I
   exact⟨u,f,ok.slstep st h λb vs o U=>⟨h.owns o,by rw[i4 (w hj I f o)];exact U⟩⟩
 ·have back:∀ {m:Nat} {sl:Sl} {u:V},(env.set i ↑s')[m]?=↑↑sl->σ[m]?=↑↑u->bO (aX H a S.out) sl u b->∃g,env[m]?=↑↑g/\bO H g u b:=λ{m sl u} q D o=>by
   rcases qy q with⟨rfl,I,_⟩ | ⟨hj,I⟩
   ·cases I
    rw[r] at D;cases D;exact⟨s,e,t b o⟩
   ·exact⟨sl,I,bk hj I D o⟩
  obtain⟨B,C,E⟩:=back D Y A;obtain⟨F,J,L⟩:=back U Z o2;exact ok.uniq j k B F v1 v2 b C J Y Z E L
variable{ds':k4}{vs':kv}
def Ok.turn(ok:Ok K G H0 W env σ H)(e:env[i]?=↑↑(.ow ds))(I:σ[i]?=↑↑(.ref l))(r:aL K H (Ow G W) ds' vs') :
  Ok K G H0 W (env.set i ↑(.ow ds')) σ (aX H l (.lst vs'))/\Step W H W (aX H l (.lst vs')):=by
 obtain⟨v,D,l',vs,rfl,S,U,_⟩:=ok.slot i _ e;rw[I] at D;cases D;have st:Step W H W (aX H l (.lst vs')):=⟨λb o q n=>by rw[i4 (λz:b=l=>n (by rw[z];exact S))];exact q,λb z=>.inl z⟩;exact ok.chg (.l vs') e I (show bO H (.ow ds) (.ref l) l from rfl) ⟨l,vs',rfl,S,md,ok.reps st r⟩ λb o=>o
def Ok.turn2(ok:Ok K G H0 W env σ H)(e:env[i]?=↑↑(.o2 dss))(s:σ[i]?=↑↑(.ref l))(Y:H l=↑(.lst (ls.map V.ref)))(u:dss[j]?=↑ds)(Z:ls[j]?=↑a)(r:aL K H (Ow G W) ds' vs'):Ok K G H0 W (env.set i ↑(.o2 (dss.set j ds'))) σ (aX H a (.lst vs'))/\Step W H W (aX H a (.lst vs')):=by
 obtain⟨v,D,l',d,rfl,w,I,f,hi⟩:=ok.slot i _ e;rw[s] at D;cases D;rw[Y] at I;have:=zf (by simpa using I);subst this;have t:a∈ls:=bh Z;have S:W a:=(hi.2 j ds a u Z).1;have st:Step W H W (aX H a (.lst vs')):=⟨λb o q n=>by rw[i4 (λz:b=a=>n (by rw[z];exact S))];exact q,λb z=>.inl z⟩;have g:l≠a:=λz=>by subst z;exact(ci.mp f).1 t
 have U:aX H a (.lst vs') l=↑(.lst (ls.map V.ref)):=by rw[i4 g];exact Y
 refine ok.chg (.l vs') e s (.inr ⟨l,ls,rfl,Y,t⟩) ⟨l,ls,rfl,w,U,f,by rw[d6];exact hi.1,λk es b x c=>?_⟩ λb o=>?_
 ·rcases qy x with⟨rfl,z,_⟩ | ⟨hk,q'⟩
  ·cases z
   rw[Z] at c;cases c;exact⟨S,vs',md,ok.reps st r⟩
  ·obtain⟨h,us,m,y⟩:=hi.2 k es b q' c
   refine⟨h,us,?_,ok.reps st y⟩;have p:b≠a:=λz=>hk (by
    subst z;exact wZ (ci.mp f).2 Z c)
   rw[i4 p];exact m
 ·rcases o with o | ⟨l',d,z,q,m⟩
  ·exact .inl o
  ·cases z
   rw[U] at q;have:=zf (by simpa using q);subst this;exact .inr ⟨l,ls,rfl,Y,m⟩
def aY.get(h:aY K G W H ps as us)(e:ps[j]?=↑(.o ds)):∃a vs,us[j]?=↑(.ref a)/\a∈as/\W a/\H a=↑(.lst vs)/\aL K H (Ow G W) ds vs:=by
 induction h generalizing j with
 |nil=>simp at e |d _ _ ih =>
   cases j with
   |zero=>simp at e |succ j=>obtain⟨a,vs,h1,h2⟩:=ih (j:=j) (by simpa using e);exact⟨a,vs,by simpa using h1,h2⟩
 | @o _ a vs _ _ _ hW hl r _ ih =>
   cases j with
   |zero=>simp at e;subst e;exact⟨a,vs,rfl,bi,hW,hl,r⟩ |succ j=>obtain⟨a,vs,h1,h2,D⟩:=ih (j:=j) (by simpa using e);exact⟨a,vs,by simpa using h1,bg _ h2,D⟩
def aY.getD(h:aY K G W H ps as us)(e:ps[j]?=↑(.d d)):∃v,us[j]?=↑v/\bB K H (Ow G W) d v:=by
 induction h generalizing j with
 |nil=>simp at e |d q _ ih =>
   cases j with
   |zero=>simp at e;subst e;exact⟨_,rfl,q⟩ |succ j=>obtain⟨a,h1,h2⟩:=ih (j:=j) (by simpa using e);exact⟨a,by simpa using h1,h2⟩
 |o _ _ _ _ ih =>
   cases j with
   |zero=>simp at e |succ j=>obtain⟨a,h1,h2⟩:=ih (j:=j) (by simpa using e);exact⟨a,by simpa using h1,h2⟩
def aY.set(st:Step W H W (aX H a (.lst vs')))(ok:Ok K G H0 W env σ H)(h:aY K G W H ps as us)(I:as.Nodup)(e:ps[j]?=↑(.o ds))(D:us[j]?=↑(.ref a))(r:aL K H (Ow G W) ds' vs') :
  aY K G W (aX H a (.lst vs')) (ps.set j (.o ds')) as us:=by
 induction h generalizing j with
 |nil=>simp at e |d q t ih =>
   cases j with
   |zero=>simp at e |succ j=>exact .d (ok.rep st q) (ih I (by simpa using e) (by simpa using D))
 | @o es b vs ps' as' us' hW hl q t ih =>
   cases j with
   |zero =>
     simp at D;subst D;refine .o hW md (ok.reps st r) (t.step (λb vs S D=>⟨(t.own S).1,?_⟩) (λ_ _ r=>ok.rep st r) λ_ _ r=>ok.reps st r);rw[i4 (λz:b=_=>by subst z;exact(ci.mp I).1 S)];exact D
   |succ j =>
     have U:a∈as':=t.parts_iff.mp ⟨j,ds,e,D⟩;have V:b≠a:=λz=>by subst z;exact(ci.mp I).1 U
     exact .o hW (by rw[i4 V];exact hl) (ok.reps st q) (ih (ci.mp I).2 e D)
variable{b:Expr}
def Ik{b:Addr}(e:ps[j]?=↑(.o ds))(h:rG (ps.set j (.o ds')) us b):rG ps us b:=by
 obtain⟨i,es,h1,h2⟩:=h;rcases qy h1 with⟨rfl,_,_⟩ | ⟨_,z⟩
 ·exact⟨j,ds,e,h2⟩
 ·exact⟨i,es,z,h2⟩
variable{r:Option Nat}
def Ok.turnP(ok:Ok K G H0 W env σ H)(e:env[i]?=↑↑(.ag k r ps))(s:σ[i]?=↑↑(.ref p))(S:dZ K H k p us)(U:ps[j]?=↑(.o ds))(V:us[j]?=↑(.ref a))(u:aL K H (Ow G W) ds' vs') :
  Ok K G H0 W (env.set i ↑(.ag k r (ps.set j (.o ds')))) σ (aX H a (.lst vs'))/\Step W H W (aX H a (.lst vs')):=by
 obtain⟨v,D,p',as,Y,rfl,w,Z,x,c,d⟩:=ok.slot i _ e;rw[s] at D;cases D;have:=yu c S.o;subst this;have t:a∈as:=d.parts_iff.mp ⟨j,ds,U,V⟩;have f:=(d.own t).1;have st:Step W H W (aX H a (.lst vs')):=⟨λb o q n=>by rw[i4 (λz:b=a=>n (by rw[z];exact f))];exact q,λb z=>.inl z⟩;have g:p≠a:=λz=>by subst z;exact(ci.mp Z).1 t
 have h:=aY.set st ok d (ci.mp Z).2 U V u;obtain⟨m,y,A⟩:=S.mo;have I:dZ K (aX H a (.lst vs')) k p us:=A _ (by rw[i4 g];exact y);refine ok.chg (.l vs') e s (.inr ⟨p,us,rfl,S.o,j,ds,U,V⟩) ⟨p,as,us,rfl,w,Z,x,I,h⟩ λb o=>?_;rcases o with o | ⟨p',Y,z,q,hb⟩
 ·exact .inl o
 ·cases z
  rw[yu I q] at hb;exact .inr ⟨p,us,rfl,S.o,Ik U hb⟩
variable{d':D}
def Ok.turnD(ok:Ok K G H0 W env σ H){D:V}(e:env[i]?=↑↑(.ag .ls r ps))(s:σ[i]?=↑↑(.ref p))(u:H p=↑(.lst us))(x:ps[j]?=↑(.d d))(y:bB K H (Ow G W) d' D) :
  Ok K G H0 W (env.set i ↑(.ag .ls r (ps.set j (.d d')))) σ (aX H p (.lst (us.set j D)))/\Step W H W (aX H p (.lst (us.set j D))):=by
 obtain⟨v,U,p',as,S,rfl,Z,w,A,I,f⟩:=ok.slot i _ e;rw[s] at U;cases U;have I:H p=↑(.lst S):=I;rw[u] at I;cases I;have st:Step W H W (aX H p (.lst (us.set j D))):=⟨λb o q n=>by rw[i4 (λz:b=p=>n (by rw[z];exact Z))];exact q,λb z=>.inl z⟩;have g:=ok.rep st y;have k:aY K G W (aX H p (.lst (us.set j D))) ps as us:=f.step (λb vs a B=>⟨(f.own a).1,by rw[i4 (λz:b=p=>by subst z;exact(ci.mp w).1 a)];exact B⟩) (λ_ _ r=>ok.rep st r) λ_ _ r=>ok.reps st r;have go:∀ {c:k7} {bs:ia} {ws:kv} (m:Nat),aY K G W (aX H p (.lst (us.set j D))) c bs ws->c[m]?=↑(.d d)->aY K G W (aX H p (.lst (us.set j D))) (c.set m (.d d')) bs (ws.set m D):=by
  intro c bs ws m h;induction h generalizing m with
  |nil=>intro e;simp at e
  |d q t ih =>
    intro e;cases m with
    |zero=>exact .d g t |succ m=>exact .d q (ih m (by simpa using e))
  |o Z hl q t ih =>
    intro e;cases m with
    |zero=>simp at e |succ m=>exact .o Z hl q (ih m (by simpa using e))
 have Y:=go j k x;refine ok.chg (.l (us.set j D)) e s (.inl rfl) ⟨p,as,us.set j D,rfl,Z,w,A,md,Y⟩ λb o=>?_;rcases o with o | ⟨p',S,z,q,a⟩
 ·exact .inl o
 ·cases z
  have q:aX H p (.lst (us.set j D)) p=↑(.lst S):=q;rw[md] at q;cases q;exact .inr ⟨p,us,rfl,u,f.parts_iff.mpr (Y.parts_iff.mp a)⟩
structure At (X:Cx) (i:Nat) (x:Str):Prop where
 n:X.N[i]?=↑x
 v:kS X.env.scope x
 d:(x==("__debug__" : Str))=false
 c:(x==("__classdict__" : Str))=false
def At.pe(h:At X i x):PE X (.Name x pos) (jB i):=Gm h.n h.v h.d h.c
structure To (X:Cx) (i:Nat) (x:Str):Prop where
 nd:X.N.Nodup
 n:X.N[i]?=↑x
 l:Loc X.env.scope x
 f:X.fn x=true\/X.env.scope.names.lookup x=some .local
structure Bn (X:Cx) (x:Str):Prop where
 g:Gl X x
 m:X.mg x=none
structure bR (N cs:h6) (X:Cx):Prop where
 n:X.N=N
 get:∀i x,N[i]?=↑x->At X i x
 ck:∀u∈cs,X.env.kindOf u=some .cell\/X.env.kindOf u=some .free
structure eJ (N:h6) (X:Cx):Prop where
 to:∀i x,N[i]?=↑x->To X i x
variable{N cs:h6}
protected def bR.a(h:bR N cs X)(e:N[i]?=↑x):At X i x:=h.get i x e
protected def eJ.t(h:eJ N X)(e:N[i]?=↑x):To X i x:=h.to i x e
def bR.nox(h:bR N cs X):bR N cs X.nox:=⟨h.n,λi x e=>let z:=h.get i x e;⟨z.n,z.v,z.d,z.c⟩,h.ck⟩
def eJ.nox(h:eJ N X):eJ N X.nox:=⟨λi x e=>let z:=h.to i x e;⟨z.nd,z.n,z.l,z.f⟩⟩
def iH(x:Str):Bool:=!(x==("__debug__" : Str)) && !(x==("__classdict__" : Str))
def um(h:iH x=true):(x==("__debug__" : Str))=false/\(x==("__classdict__" : Str))=false:=by
 unfold iH at h;rwa [d9,mn,mn] at h
variable{k:Nat}
def qv{o:Option NameKind}{k:NameKind}(h:(o==↑k)=true):o=↑k:=by
 cases o with
 |none=>cases h
 |some a=>cases a <;> cases k <;> first |rfl |cases h
def aT(N:h6)(ix:ic):h6:=ix.map λi=>N.getD i ("" : Str)
def t9(N cs:h6)(ix:ic)(y:Str)(sc:Scope):Bool:=decide ((y::aT N ix).Nodup) && decide (sc.kind=.function) && (sc.names.lookup y==some .local) && decide (∀z∈sc.names,z.2≠.cell) && decide (∀z∈sc.names,z.2=.local->sc.names.lookup z.1=some .local) && decide (∀z∈sc.names,z.2=.free->z.1∈aT N ix) && (aT N ix).all (λu=>(sc.names.lookup u==some .free) && cs.elem u) && (y::aT N ix).all iH
def xa(h:X.env.scope.names.lookup x=some .globalImplicit):Gl X x:=h
variable{s:Shared}
def Il(h:sc.names.lookup x=some .local):kS (kq X y N' sc cl C s H fp).env.scope x:=.inl (i5 h)
def Io(h:sc.names.lookup x=some .free):kS (kq X y N' sc cl C s H fp).env.scope x:=.inr (mx h)
def xv(hA:bR N cs X)(h:t9 N cs ix y sc=true):wV X y (aT N ix) ix sc:=by
 unfold t9 at h;simp only[d9,iw,f9] at h;obtain⟨⟨⟨⟨⟨⟨⟨h1,h2⟩,I⟩,S⟩,U⟩,V⟩,D⟩,_⟩:=h;exact⟨by rw[hA.n];rfl,h1,h2,qv I,S,U,λz Y Z=>hA.ck z.1 (List.mem_of_elem_eq_true (D z.1 (V z Y Z)).2),λu a=>qv (D u a).1⟩
def uw(h:t9 N cs ix y sc=true):bR (y::aT N ix) (aT N ix) (kq X y (aT N ix) sc cl C s₂ H₂ fp):=by
 unfold t9 at h;simp only[d9,iw,f9] at h;obtain⟨⟨⟨⟨⟨⟨⟨h1,h2⟩,S⟩,V⟩,Y⟩,Z⟩,D⟩,I⟩:=h;refine⟨rfl,λi x e=>⟨e,?_,(um (I x (bh e))).1,(um (I x (bh e))).2⟩,λu U=>?_⟩
 ·rcases b6.mp (bh e) with rfl |hm
  ·exact Il (qv S)
  ·exact Io (qv (D x hm).1)
 ·exact mx (env:=X.env) (qv (D u U).1)
abbrev FE:=aP->Option (D×aP)
abbrev FT:=aP->Option (Bool×aP)
abbrev FA:=aP->Option (k4×aP)
inductive DP (K:kf) (G:Gd) (H0:Hp) {β:Type} (f:aP->Option (β×aP)) (P:(Addr->Prop)->aP->β->aP->Prop) (σ:St) (H:Hp):Prop
 |mk (W:Addr->Prop) (env:aP) (d:β) (env':aP) (ok:Ok K G H0 W env σ H) (q:f env=↑(d,env')) (k:P W env d env'):DP K G H0 f P σ H
def tD(K:kf)(G:Gd)(H0:Hp)(f:FE):TE:=λσ H Q=>DP K G H0 f (λW env d env' =>
 ∀W' v H',Step W H W' H'->Ok K G H0 W' env' σ H'->bB K H' (Ow G W') d v->Q v H') σ H
def rH(K:kf)(G:Gd)(H0:Hp)(f:FT):TT:=λσ H Q=>DP K G H0 f (λW env b env' =>
 ∀W' H',Step W H W' H'->Ok K G H0 W' env' σ H'->Q b H') σ H
def kO(K:kf)(G:Gd)(H0:Hp)(f:FA):TA:=λσ H Q=>DP K G H0 f (λW env ds env' =>
 ∀W' vs H',Step W H W' H'->Ok K G H0 W' env' σ H'->aL K H' (Ow G W') ds vs->Q vs H') σ H
def hC(K:kf)(G:Gd)(H0:Hp)(f:FA):TE:=λσ H Q=>DP K G H0 f (λW env ds env' =>
 ∀W' l vs H',Step W H (cE W' l) H'->Ok K G H0 W' env' σ H'->Ok K G H0 (cE W' l) env' σ H'->¬W' l->H' l=↑(.lst vs)->aL K H' (Ow G (cE W' l)) ds vs->Q (.ref l) H') σ H
structure aS (X:Cx) (G:Gd) (H0:Hp) (e:Expr) (f:FE):Prop where
 out:PE X e (tD X.K G H0 f)
structure gD (X:Cx) (G:Gd) (H0:Hp) (e:Expr) (f:FT):Prop where
 out:PT X e (rH X.K G H0 f)
structure e_ (X:Cx) (G:Gd) (H0:Hp) (es:j0) (f:FA):Prop where
 out:PA X es (kO X.K G H0 f)
structure fW (X:Cx) (G:Gd) (H0:Hp) (e:Expr) (f:FA):Prop where
 out:PE X e (hC X.K G H0 f)
variable{e:Expr}{t:TE}{t':TT}
def PE.imp{t':TE}(h:PE X e t)(i:∀σ H Q,t' σ H Q->t σ H Q):PE X e t':=λpins s σ H Q I q=>h pins s σ H Q I (i σ H Q q)
def PT.imp{t:TT}(h:PT X e t)(i:∀σ H Q,t' σ H Q->t σ H Q):PT X e t':=λpins s σ H Q I q=>h pins s σ H Q I (i σ H Q q)
def PA.imp{e:j0}{t t':TA}(h:PA X e t)(i:∀σ H Q,t' σ H Q->t σ H Q):PA X e t':=λpos pins s σ H Q I q=>h pos pins s σ H Q I (i σ H Q q)
@[simp] def aB(i:Nat):FE:=λe=>match e[i]? with
 |some ⇑d=>↑(d,e) |some ↑(.ow ds)=>↑(.lst ds,e.set i ⇑(.lst ds))
 |some ↑(.o2 dss)=>↑(.lst (dss.map D.lst),e.set i ⇑(.lst (dss.map D.lst)))
 |_=>none
@[simp] def fC(d:D):FE:=λe=>↑(d,e)
@[simp] def aD(op:D->D->k6)(f g:FE):FE:=λe=>(f e).bind λr=>(g r.2).bind λq=>(op r.1 q.1).map λd=>(d,q.2)
@[simp] def gF(op:D->k6)(f:FE):FE:=λe=>(f e).bind λr=>(op r.1).map λd=>(d,r.2)
@[simp] def dI(f g:FT):FT:=λe=>(f e).bind λr=>if r.1=true then g r.2 else ↑(false,r.2)
@[simp] def gL(f g:FT):FT:=λe=>(f e).bind λr=>if r.1=true then ↑(true,r.2) else g r.2
@[simp] def cW(f:FT):FT:=λe=>(f e).map λr=>(!r.1,r.2)
@[simp] def aI(f:FE):FT:=λe=>(f e).bind λr=>match r.1 with | .bl b=>↑(b,r.2) |_=>none
@[simp] def xo(f g:FE):FE:=λe=>(f e).bind λr=>match r.1 with | .bl true=>g r.2 | .bl false=>↑(.bl false,r.2) |_=>none
@[simp] def x0(f:FE):FE:=λe=>(f e).bind λr=>match r.1 with | .bl b=>↑(.bl (!b),r.2) |_=>none
@[simp] def aC:FA:=λe=>↑([],e)
@[simp] def ak(f:FE)(g:FA):FA:=λe=>(f e).bind λr=>(g r.2).bind λq=>↑(r.1::q.1,q.2)
@[simp] def aW(g:FA):FE:=λe=>(g e).bind λr=>if r.1.length<=64 then ↑(.tup r.1,r.2) else none
@[simp] def gi(g:FA):FA:=λe=>(g e).bind λr=>if r.1.length<=64 then ↑(r.1,r.2) else none
@[simp] def aJ(g:FA):FE:=λe=>(g e).map λr=>(.lst r.1,r.2)
@[simp] def iq:D->D->k6 | .int i,.int j=>↑↥(i+j) |_,_=>none
@[simp] def aZ:D->D->k6 | .int i,.int j=>↑↥(i-j) |_,_=>none
def pk(i:Int):Prop:=-(2 ^ 64)<i/\i<2 ^ 64
noncomputable instance (i:Int):Decidable (pk i):=Classical.propDecidable _
def cI(n:Nat):Prop:=n<=2 ^ 20
noncomputable instance (n:Nat):Decidable (cI n):=Classical.propDecidable _
def iW(lo hi i:Int):Prop:=lo<=i/\i<hi
noncomputable instance (lo hi i:Int):Decidable (iW lo hi i):=Classical.propDecidable _
def cN:D->D->k6 | .int i,.int j=>if pk i\/pk j then ↑↥(i*j) else none |_,_=>none
def bF:D->D->k6 | .int i,.int j=>if 0<j then ↑↥(i % j) else none |_,_=>none
def cK:D->D->k6 | .int i,.int j=>if iW 1 1073741824 j then ↑↥(i / j) else none |_,_=>none
@[simp] def dN:D->k6 | .int i=>↑↥(-i) |_=>none
@[simp] def gG:D->D->k6 | .int i,.int j=>↑(.bl (decide (i<j))) |_,_=>none
@[simp] def rJ:D->D->k6 | .int i,.int j=>↑(.bl (decide (i<=j))) |_,_=>none
@[simp] def d_:D->D->k6 | .int i,.int j=>↑(.bl (decide (j<i))) |_,_=>none
@[simp] def iL:D->D->k6 | .int i,.int j=>↑(.bl (decide (j<=i))) |_,_=>none
@[simp] def bU:D->D->k6
 | .int i,.int j=>↑(.bl (decide (i=j))) | .str i,.str j=>↑(.bl (decide (i=j))) | .bl i,.bl j=>↑(.bl (decide (i=j))) |_,_=>none
@[simp] def jZ:D->D->k6
 | .int i,.int j=>↑(.bl (!decide (i=j))) | .str i,.str j=>↑(.bl (!decide (i=j))) | .bl i,.bl j=>↑(.bl (!decide (i=j))) |_,_=>none
@[simp] def cS:D->D->k6 | .tup ds,.int i=>bG ds i | .lst ds,.int i=>bG ds i |_,_=>none
def fX(X:Cx)(G:Gd)(H0:Hp)(r:R2)(op:D->D->k6):Prop :=
 ∀W env σ H x y d1 d2 d (Q:VK),Ok X.K G H0 W env σ H->bB X.K H (Ow G W) d1 x->bB X.K H (Ow G W) d2 y->op d1 d2=↑d ->
  (∀v H',Step W H W H'->Ok X.K G H0 W env σ H'->bB X.K H' (Ow G W) d v->Q v H')->r x y H Q
variable{g:FE}{r:R2}{op:D->D->k6}
def o0(V:fX X G H0 r op):∀σ H Q,tD X.K G H0 (aD op f g) σ H Q->nP r (tD X.K G H0 f) (tD X.K G H0 g) σ H Q:=by
 rintro σ H Q ⟨W,env,d,env',ok,e,k⟩;cases e1:f env with
 |none=>simp[e1] at e |some r1 =>
   cases e2:g r1.2 with
   |none=>simp[e1,e2] at e |some r2 =>
     have e:(op r1.1 r2.1).map (λd=>(d,r2.2))=↑(d,env'):=by simpa[aD,e1,e2] using e
     cases e3:op r1.1 r2.1 with
     |none=>rw[e3] at e;cases e
     |some d' =>
       rw[e3] at e;have Y:(d',r2.2)=(d,env'):=b8 e;cases Y;refine⟨W,env,r1.1,r1.2,ok,e1,λW1 v1 H1 Z D p1=>⟨W1,r1.2,r2.1,r2.2,D,e2,λU v2 H2 s2 I p2=>?_⟩⟩;exact V U _ σ H2 v1 v2 _ _ _ Q I (D.rep s2 p1) p2 e3 λv a b S c=>k U v a ((Z.trans s2).trans b) S c
variable{a:Expr}{p:D->D->k6}
def m1{op:Operator}(D:fV X (binaryOp op) r)(hd:fX X G H0 r p)(I:aS X G H0 a f)(S:aS X G H0 b g):aS X G H0 (.BinOp a op b pos) (aD p f g) :=
 ⟨(ri D I.out S.out).imp (o0 hd)⟩
def Cr{op:CmpOp}(D:fV X (compareOp op) r)(hd:fX X G H0 r p)(I:aS X G H0 a f)(S:aS X G H0 b g)(U:behindInMarks op b=false):aS X G H0 (.Compare a [op] [b] pos) (aD p f g) :=
 ⟨(GZ D I.out S.out U).imp (o0 hd)⟩
def Ip(D:jR X r)(hd:fX X G H0 r p)(I:aS X G H0 a f)(S:aS X G H0 b g)(U:zb b):aS X G H0 (.Subscript a b pos) (aD p f g) :=
 ⟨(nT D I.out S.out U).imp (o0 hd)⟩
def Cs(h:∀σ H Q,tD X.K G H0 f σ H Q->t σ H Q):∀σ H Q,rH X.K G H0 (aI f) σ H Q->BH t σ H Q:=by
 rintro σ H Q ⟨W,env,b,env',ok,e,k⟩;refine h σ H _ ?_;cases e1:f env with
 |none=>simp[e1] at e |some r1 =>
   obtain⟨d,env1⟩:=r1;cases d with
   |bl b' =>
     have e:↑(b',env1)=↑(b,env'):=by simpa[aI,e1] using e
     cases e;exact⟨W,env,_,_,ok,e1,λW1 v1 H1 I D p1=>⟨_,p1.bl_,k W1 H1 I D⟩⟩
   |_=>simp[e1] at e
def yt{op:CmpOp}(D:fV X (compareOp op) r)(hd:fX X G H0 r p)(I:aS X G H0 a f)(S:aS X G H0 b g)(U:behindInMarks op b=false):gD X G H0 (.Compare a [op] [b] pos) (aI (aD p f g)) :=
 ⟨(G_ D I.out S.out U).imp (Cs (o0 hd))⟩
variable{g:Int->Int->Int}
def j_{C:Int->Int->Prop}(h:∀D I d,op D I=↑d->∃i j,D=.int i/\I=.int j/\C i j/\d=.int (g i j)):fX X G H0 (rI C λi j=>.int (g i j)) op:=by
 intro W env σ H x y D I d Q ok p1 p2 e k;obtain⟨i,j,rfl,rfl,S,rfl⟩:=h _ _ _ e;exact⟨i,j,p1.int_,p2.int_,S,k _ H Step.refl ok ↥_⟩
def Ct(h:∀D I d,op D I=↑d->∃i j,D=.int i/\I=.int j/\d=.int (g i j)):fX X G H0 (hV λi j=>.int (g i j)) op:=by
 intro W env σ H x y D I d Q ok p1 p2 e k;obtain⟨i,j,rfl,rfl,rfl⟩:=h _ _ _ e;exact⟨i,j,p1.int_,p2.int_,k _ H Step.refl ok ↥_⟩
variable{g:FE}
def rK{g:Int->Int->Bool}(h:∀D I d,op D I=↑d->∃i j,D=.int i/\I=.int j/\d=.bl (g i j)):fX X G H0 (hV λi j=>.bl (g i j)) op:=by
 intro W env σ H x y D I d Q ok p1 p2 e k;obtain⟨i,j,rfl,rfl,rfl⟩:=h _ _ _ e;exact⟨i,j,p1.int_,p2.int_,k _ H Step.refl ok (.bl _)⟩
def Iq:fX X G H0 (hV λi j=>.int (i+j)) iq:=Ct λD I d e=>by
 cases D <;> try (cases e;done)
 all_goals cases I <;> first | (cases e;done) |exact⟨_,_,rfl,rfl,(b8 e).symm⟩
def Ir:fX X G H0 (hV λi j=>.int (i-j)) aZ:=Ct λD I d e=>by
 cases D <;> try (cases e;done)
 all_goals cases I <;> first | (cases e;done) |exact⟨_,_,rfl,rfl,(b8 e).symm⟩
def Is:fX X G H0 (rI jX λi j=>.int (i*j)) cN:=j_ λD I d e=>by
 cases D <;> try (cases e;done)
 all_goals cases I <;> first
  | (cases e;done)
  | (rename_i i j
     by_cases h:pk i\/pk j
     ·simp only[cN,am h] at e;exact⟨_,_,rfl,rfl,h,(b8 e).symm⟩
     ·simp only[cN,bw h] at e;cases e)
def Iu:fX X G H0 (rI (λ_ j=>0<j) λi j=>.int (i % j)) bF:=j_ λD I d e=>by
 cases D <;> try (cases e;done)
 all_goals cases I <;> first
  | (cases e;done)
  | (rename_i i j
     by_cases h:0<j
     ·simp only[bF,am h] at e;exact⟨_,_,rfl,rfl,h,(b8 e).symm⟩
     ·simp only[bF,bw h] at e;cases e)
theorem Iv:fX X G H0 (rI nR λi j=>.int (i / j)) cK:=j_ λD I d e=>by
 cases D <;> try (cases e;done)
 all_goals cases I <;> first
  | (cases e;done)
  | (rename_i i j
     by_cases h:iW 1 1073741824 j
     ·simp only[cK,am h] at e;exact⟨_,_,rfl,rfl,⟨by have:=h.1;lia,h.2⟩,(b8 e).symm⟩
     ·simp only[cK,bw h] at e;cases e)
def Iw:fX X G H0 (hV λi j=>.bl (decide (i<j))) gG:=rK λD I d e=>by
 cases D <;> try (cases e;done)
 all_goals cases I <;> first | (cases e;done) |exact⟨_,_,rfl,rfl,(b8 e).symm⟩
def Ix:fX X G H0 (hV λi j=>.bl (decide (i<=j))) rJ:=rK λD I d e=>by
 cases D <;> try (cases e;done)
 all_goals cases I <;> first | (cases e;done) |exact⟨_,_,rfl,rfl,(b8 e).symm⟩
def Cu:fX X G H0 (hV λi j=>.bl (decide (j<i))) d_:=rK λD I d e=>by
 cases D <;> try (cases e;done)
 all_goals cases I <;> first | (cases e;done) |exact⟨_,_,rfl,rfl,(b8 e).symm⟩
def Iy:fX X G H0 (hV λi j=>.bl (decide (j<=i))) iL:=rK λD I d e=>by
 cases D <;> try (cases e;done)
 all_goals cases I <;> first | (cases e;done) |exact⟨_,_,rfl,rfl,(b8 e).symm⟩
def Cv(i j:Int):decide (V.int i=V.int j)=decide (i=j):=by simp
def Cw(i j:Str):decide (V.str i=V.str j)=decide (i=j):=by simp
def Cy(i j:Bool):decide (V.bl i=V.bl j)=decide (i=j):=by simp
def Cz:fX X G H0 B8 bU:=by
 intro W env σ H x y D I d Q ok p1 p2 e k;cases D <;> try (cases e;done)
 all_goals cases I <;> first
  | (cases e;done)
  | (cases p1.int_;cases p2.int_;cases e;refine⟨rfl,?_⟩;rw[Cv];exact k _ H Step.refl ok (.bl _))
  | (cases p1.str_;cases p2.str_;cases e;refine⟨rfl,?_⟩;rw[Cw];exact k _ H Step.refl ok (.bl _))
  | (cases p1.bl_;cases p2.bl_;cases e;refine⟨rfl,?_⟩;rw[Cy];exact k _ H Step.refl ok (.bl _))
def Iz:fX X G H0 B9 jZ:=by
 intro W env σ H x y D I d Q ok p1 p2 e k;cases D <;> try (cases e;done)
 all_goals cases I <;> first
  | (cases e;done)
  | (cases p1.int_;cases p2.int_;cases e;refine⟨rfl,?_⟩;rw[Cv];exact k _ H Step.refl ok (.bl _))
  | (cases p1.str_;cases p2.str_;cases e;refine⟨rfl,?_⟩;rw[Cw];exact k _ H Step.refl ok (.bl _))
  | (cases p1.bl_;cases p2.bl_;cases e;refine⟨rfl,?_⟩;rw[Cy];exact k _ H Step.refl ok (.bl _))
def m2{i:Int}(r:aL K H O ds vs)(h:bG ds i=↑d):∃v,bG vs i=↑v/\bB K H O d v:=by
 unfold bG at h ⊢;rw[<-r.length];cases q:eI ds.length i with
 |none=>rw[q] at h;cases h
 |some j=>rw[q] at h;exact r.get h
def IA:fX X G H0 (BZ X.K) cS:=by
 intro W env σ H x y S U d Q ok p1 p2 e k;cases S <;> first
  | (cases e;done)
  | (cases U <;> first
      | (cases e;done)
      | (cases p2
         first
          | (obtain⟨a, vs, rfl, h, r⟩ := p1.tup_
             obtain⟨v,D,I⟩:=m2 r e;exact .inr (.inl ⟨a,vs,_,v,rfl,rfl,eG.of h,D,k _ H Step.refl ok I⟩))
          | (obtain⟨a, vs, rfl, h, r⟩ := p1.lst_
             obtain⟨v,D,I⟩:=m2 r e;exact .inl ⟨a,vs,_,v,rfl,rfl,h.sq,D,k _ H Step.refl ok I⟩)))
def lm(D:aS X G H0 a f)(I:aS X G H0 b g):aS X G H0 (.BinOp a .Add b pos) (aD iq f g):=m1 GP Iq D I
def kz(D:aS X G H0 a f)(I:aS X G H0 b g):aS X G H0 (.BinOp a .Sub b pos) (aD aZ f g):=m1 B6 Ir D I
def qk(D:aS X G H0 a f)(I:aS X G H0 b g):aS X G H0 (.BinOp a .Mult b pos) (aD cN f g):=m1 GQ Is D I
def m9(D:aS X G H0 a f)(I:aS X G H0 b g):aS X G H0 (.BinOp a .Mod b pos) (aD bF f g):=m1 GS Iu D I
def rh(D:aS X G H0 a f)(I:aS X G H0 b g):aS X G H0 (.BinOp a .FloorDiv b pos) (aD cK f g):=m1 GR Iv D I
def IB(D:aS X G H0 a f)(I:aS X G H0 b g):aS X G H0 (.Compare a [.Gt] [b] pos) (aD d_ f g):=Cr BG Cu D I (wg _)
def C0(D:aS X G H0 a f)(I:aS X G H0 b g):aS X G H0 (.Compare a [.Eq] [b] pos) (aD bU f g):=Cr BF Cz D I (wg _)
def qu(D:aS X G H0 a f)(I:aS X G H0 b g):gD X G H0 (.Compare a [.Lt] [b] pos) (aI (aD gG f g)):=yt GW Iw D I (wg _)
def C1(D:aS X G H0 a f)(I:aS X G H0 b g):gD X G H0 (.Compare a [.LtE] [b] pos) (aI (aD rJ f g)):=yt GX Ix D I (wg _)
def n8(D:aS X G H0 a f)(I:aS X G H0 b g):gD X G H0 (.Compare a [.Gt] [b] pos) (aI (aD d_ f g)):=yt BG Cu D I (wg _)
def mB(D:aS X G H0 a f)(I:aS X G H0 b g):gD X G H0 (.Compare a [.GtE] [b] pos) (aI (aD iL f g)):=yt GY Iy D I (wg _)
def km(D:aS X G H0 a f)(I:aS X G H0 b g):gD X G H0 (.Compare a [.Eq] [b] pos) (aI (aD bU f g)):=yt BF Cz D I (wg _)
def mD(D:aS X G H0 a f)(I:aS X G H0 b g):gD X G H0 (.Compare a [.NotEq] [b] pos) (aI (aD jZ f g)):=yt GV Iz D I (wg _)
def lw(D:aS X G H0 a f)(I:aS X G H0 b g)(S:zb b:=by intro _ _;rfl):aS X G H0 (.Subscript a b pos) (aD cS f g):=Ip B_ IA D I S
variable{Nn Cn:h6}
def bf(an:bR Nn Cn X)(S:‹Nn[i]?=↑x›):aS X G H0 (.Name x pos) (aB i):=⟨((an.a S).pe).imp λσ H Q U=>by
 obtain⟨W,env,d,env',ok,e,k⟩:=U;unfold aB at e;cases q:env[i]? with
 |none=>rw[q] at e;cases e
 |some o =>
   cases o with
   |none=>rw[q] at e;cases e
   |some sl =>
     cases sl with
     |sh d' =>
       rw[q] at e;cases e;obtain⟨v,I,r⟩:=ok.slot i _ q;exact⟨v,I,k W v H Step.refl ok r⟩
     |ow ds =>
       rw[q] at e;cases e;obtain⟨W',v,I,st,D,r⟩:=ok.share q;exact⟨v,I,k W' v H st D r⟩
     |o2 dss =>
       rw[q] at e;cases e;obtain⟨W',v,I,st,D,r⟩:=ok.share2 q;exact⟨v,I,k W' v H st D r⟩
     |ag _ _ _=>rw[q] at e;cases e
     |al _ _=>rw[q] at e;cases e
     |ro _ _=>rw[q] at e;cases e⟩
def kA(h:PE X e (tC v))(r:∀H O,bB X.K H O d v):aS X G H0 e (fC d):=⟨h.imp λσ H Q D=>by
 obtain⟨W,env,d',env',ok,q,k⟩:=D;cases q;exact k W v H Step.refl ok (r _ _)⟩
def cg{i:Int}:aS X G H0 (.Constant ↥i j pos) (fC ↥i):=kA nF λ_ _=>.int _
def o9{i:Bool}:aS X G H0 (.Constant (.bool i) j pos) (fC (.bl i)):=kA Gn λ_ _=>.bl _
def gy{i:Str}:aS X G H0 (.Constant (.str i) j pos) (fC (.str i)):=kA Bu λ_ _=>.str _
def ul(S:aS X G H0 a f):aS X G H0 (.UnaryOp .USub a pos) (gF dN f):=⟨(B5 B7 S.out).imp λσ H Q U=>by
 obtain⟨W,env,d',env',ok,q,k⟩:=U;cases e1:f env with
 |none=>simp[e1] at q |some r =>
   obtain⟨d,env1⟩:=r;cases d with
   |int i =>
     have q:↑(D.int (-i),env1)=↑(d',env'):=by simpa[gF,e1,dN] using q
     cases q;exact⟨W,env,_,_,ok,e1,λW1 v1 H1 V I p1=>⟨i,p1.int_,k W1 _ H1 V I ↥_⟩⟩
   |_=>simp[e1] at q⟩
structure kY (X:Cx) (G:Gd) (H0:Hp) (e:Expr) (f:FT):Prop where
 out:PW X e (rH X.K G H0 f)
variable{t:TI}
def PW.imp{t:TT}(h:PW X e t)(i:∀σ H Q,t' σ H Q->t σ H Q):PW X e t':=λw pins s σ H Q I q=>h w pins s σ H Q I (i σ H Q q)
variable{p:FT}
def cX(h:kY X G H0 e p):gD X G H0 e p:=⟨PW.pt h.out⟩
def ur(h:gD X G H0 a p):kY X G H0 (.BoolOp .And [a] pos) p:=⟨Gq h.out⟩
def qx(h:gD X G H0 a p):kY X G H0 (.BoolOp .Or [a] pos) p:=⟨Gr h.out⟩
variable{rest:j0}
def uk(h:gD X G H0 a p)(h2:kY X G H0 (.BoolOp .And (b::rest) pos) q):kY X G H0 (.BoolOp .And (a::b::rest) pos) (dI p q):=⟨(Gs h.out h2.out).imp λσ H Q U=>by
 obtain⟨W,env,d,env',ok,e,k⟩:=U;cases e1:p env with
 |none=>simp[e1] at e |some r =>
   obtain⟨t,env1⟩:=r;refine⟨W,env,t,env1,ok,e1,λW1 H1 S D=>?_⟩;cases t with
   |true =>
     exact⟨W1,env1,d,env',D,by simpa[dI,e1] using e,λV H2 s2 I=>k V H2 (S.trans s2) I⟩
   |false =>
     have e:↑(false,env1)=↑(d,env'):=by simpa[dI,e1] using e
     cases e;exact k W1 H1 S D⟩
def qt(h:gD X G H0 a p)(h2:kY X G H0 (.BoolOp .Or (b::rest) pos) q):kY X G H0 (.BoolOp .Or (a::b::rest) pos) (gL p q):=⟨(Gu h.out h2.out).imp λσ H Q U=>by
 obtain⟨W,env,d,env',ok,e,k⟩:=U;cases e1:p env with
 |none=>simp[e1] at e |some r =>
   obtain⟨t,env1⟩:=r;refine⟨W,env,t,env1,ok,e1,λW1 H1 S D=>?_⟩;cases t with
   |false =>
     exact⟨W1,env1,d,env',D,by simpa[gL,e1] using e,λV H2 s2 I=>k V H2 (S.trans s2) I⟩
   |true =>
     have e:↑(true,env1)=↑(d,env'):=by simpa[gL,e1] using e
     cases e;exact k W1 H1 S D⟩
def qw(h:gD X G H0 a p):gD X G H0 (.UnaryOp .Not a pos) (cW p):=⟨(Gv h.out).imp λσ H Q I=>by
 obtain⟨W,env,d,env',ok,e,k⟩:=I;cases e1:p env with
 |none=>simp[e1] at e |some r =>
   have e:↑(!r.1,r.2)=↑(d,env'):=by simpa[cW,e1] using e
   cases e;exact⟨W,env,_,_,ok,e1,λW1 H1 S D=>k W1 H1 S D⟩⟩
def pf(h:aS X G H0 a f)(I:∀D,isTrue a X.env D=(do let v <-D;standAt a.pos;holding [v] (truthy v)):=by intro _;rfl):gD X G H0 a (aI f):=⟨(Go h.out I).imp (Cs λ_ _ _ z=>z)⟩
variable{op:k4->k6}
def x3{op:BoolOp}(h:aS X G H0 a f):aS X G H0 (.BoolOp op [a] pos) f:=⟨Gy h.out⟩
def x4(h:aS X G H0 a f)(h2:aS X G H0 (.BoolOp .And (b::rest) pos) g):aS X G H0 (.BoolOp .And (a::b::rest) pos) (xo f g):=⟨(Gz h.out h2.out).imp λσ H Q V=>by
 obtain⟨W,env,d,env',ok,e,k⟩:=V;cases e1:f env with
 |none=>simp[e1] at e |some r =>
   obtain⟨t,env1⟩:=r;refine⟨W,env,t,env1,ok,e1,λW1 v1 H1 U I p1=>?_⟩;cases t with
   |bl t =>
     refine⟨t,p1.bl_,?_⟩;cases t with
     |true =>
       exact⟨W1,env1,d,env',I,by simpa[xo,e1] using e,λY v2 H2 s2 S p2=>k Y v2 H2 (U.trans s2) S p2⟩
     |false =>
       have e:↑(D.bl false,env1)=↑(d,env'):=by simpa[xo,e1] using e
       cases e;exact k W1 _ H1 U I (.bl _)
   |_=>simp[e1] at e⟩
def IC(h:aS X G H0 a f):aS X G H0 (.UnaryOp .Not a pos) (x0 f):=⟨(G0 h.out).imp λσ H Q S=>by
 obtain⟨W,env,d,env',ok,e,k⟩:=S;cases e1:f env with
 |none=>simp[e1] at e |some r =>
   obtain⟨t,env1⟩:=r;refine⟨W,env,t,env1,ok,e1,λW1 v1 H1 U I p1=>?_⟩;cases t with
   |bl t =>
     have e:↑(D.bl (!t),env1)=↑(d,env'):=by simpa[x0,e1] using e
     cases e;exact⟨t,p1.bl_,k W1 _ H1 U I (.bl _)⟩
   |_=>simp[e1] at e⟩
def b7  : e_ X G H0 [] aC:=⟨tw.imp λσ H Q D=>by
 obtain⟨W,env,ds,env',ok,e,k⟩:=D;cases e;exact k W [] H Step.refl ok .nil⟩
variable{F:FA}
def az(S:aS X G H0 e f)(U:e_ X G H0 es F)(V:‹starEach (e::es) X.env=(false,eval e X.env)::starEach es X.env›):e_ X G H0 (e::es) (ak f F):=⟨(om S.out U.out V).imp λσ H Q Y=>by
 obtain⟨W,env,ds,env',ok,q,k⟩:=Y;cases e1:f env with
 |none=>simp[e1] at q |some r =>
   obtain⟨d,env1⟩:=r;cases e2:F env1 with
   |none=>simp[e1,e2] at q |some r2 =>
     have q:↑(d::r2.1,r2.2)=↑(ds,env'):=by simpa[ak,e1,e2] using q
     cases q;exact⟨W,env,d,env1,ok,e1,λW1 v1 H1 Z D p1=>⟨W1,env1,_,_,D,e2,λa vs H2 s2 I p2=>k a _ H2 (Z.trans s2) I (.cons (D.rep s2 p1) p2)⟩⟩⟩
def oA(h:n<=64):n<=sizeLine:=d7 h (by rw[gz];decide)
def j6{k1}(h:e_ X G H0 es F):aS X G H0 (.Tuple es k1 pos) (aW F):=⟨(BN h.out).imp λσ H Q U=>by
 obtain⟨W,env,d,env',ok,q,k⟩:=U;cases e1:F env with
 |none=>simp[e1] at q |some r =>
   obtain⟨ds,env1⟩:=r;by_cases S:ds.length<=64
   ·have q:↑(D.tup ds,env1)=↑(d,env'):=by simpa[aW,e1,S] using q
    cases q;refine⟨W,env,ds,_,ok,e1,λW1 vs H1 V I p1=>⟨by rw[<-p1.length];exact oA S,λl Y=>?_⟩⟩;have sm:bC H1 (aX H1 l (.tup vs)):=uz Y;have st:Step W1 H1 W1 (aX H1 l (.tup vs)):=Step.same sm;exact k W1 _ _ (V.trans st) (I.same sm) (.tup md (I.reps st p1))
   ·simp[e1,S] at q⟩
def yr(ok:Ok X.K G H0 W env σ H)(r:aL X.K H (Ow G W) ds vs)(D:H l=none) :
  Step W H (cE W l) (aX H l (.lst vs))/\Ok X.K G H0 W env σ (aX H l (.lst vs))/\Ok X.K G H0 (cE W l) env σ (aX H l (.lst vs))/\¬W l/\aX H l (.lst vs) l=↑(.lst vs)/\aL X.K (aX H l (.lst vs)) (Ow G (cE W l)) ds vs:=by
 have sm:bC H (aX H l (.lst vs)):=uz D;obtain⟨h1,h2,I,S,U⟩:=ok.fresh (l:=l) (vs:=vs) (ds:=ds) sm D md ((r.mono (O':=λa=>(Ow G W a\/H a=none)/\a≠l) (λ_ _ h=>sm _ _ h) λa us o h=>⟨⟨.inl o,λz=>by
  subst z;have h2:Rd H a (.lst us):=h;rcases h2 with h2 | ⟨_,h2⟩ <;> rw[D] at h2 <;> cases h2⟩,h.keep λo e=>sm _ o e⟩))
 exact⟨U,ok.same sm,I,h1,md,S⟩
def jc(h:e_ X G H0 es F):fW X G H0 (.List es pos) (gi F):=⟨(BO h.out).imp λσ H Q S=>by
 obtain⟨W,env,d,env',ok,q,k⟩:=S;cases e1:F env with
 |none=>simp[e1] at q |some r =>
   obtain⟨ds,env1⟩:=r;by_cases D:ds.length<=64
   ·have q:↑(ds,env1)=↑(d,env'):=by simpa[gi,e1,D] using q
    cases q;refine⟨W,env,_,_,ok,e1,λW1 vs H1 U I p1=>⟨by rw[<-p1.length];exact oA D,λl V=>?_⟩⟩;obtain⟨h1,h2,Y,Z,a,b⟩:=yr I p1 V;exact k W1 l vs _ (U.trans h1) h2 Y Z a b
   ·simp[e1,D] at q⟩
def gf(h:fW X G H0 e F):aS X G H0 e (aJ F):=⟨h.out.imp λσ H Q V=>by
 obtain⟨W,env,d,env',ok,q,k⟩:=V;cases e1:F env with
 |none=>simp[e1] at q |some r =>
   have q:↑(D.lst r.1,r.2)=↑(d,env'):=by simpa[aJ,e1] using q
   cases q;refine⟨W,env,_,_,ok,e1,λW1 l vs H1 U I S Y Z b=>k W1 _ H1 ⟨U.keep,λa z=>U.ws a (.inl z)⟩ I (.lst ⟨I.good l (S.wl l (.inr rfl)).1,Y⟩ (.inl Z) (b.mono (λ_ _ h=>h) λa us o h=>⟨⟨o.1,λz=>o.2 (.inl z)⟩,h⟩))⟩⟩
def bN(P:Program)(w:World)(K:kf)(mg:Str->h8)(base:Heap)(CX:hY)(x:Str)(k:Nat)(sp:Sp):Prop :=
 ∃fa fd ps,cJ P w K mg base CX k fa fd ps sp/\mg x=↑(.ref fa)/\PySem.W.keepIn K (.ref fa)=true/\Binds K fd ps []/\(x==("__debug__" : Str))=false
def cM(K:kf)(m:k4->k6):Sp:=λvs H Q _=>∃O ds d,aL K H O ds vs/\m ds=↑d/\∀v H',bC H H'->bB K H' (λa=>O a\/H a=none) d v->Q v H'
def kP(K:kf)(m:k4->Option k4):Sp:=λvs H Q _=>∃O ds I,aL K H O ds vs/\m ds=↑I/\∀l us H',bC H H'->H l=none->H' l=↑(.lst us)->aL K H' (λa=>(O a\/H a=none)/\a≠l) I us->Q (.ref l) H'
@[simp] def d5(m:k4->k6)(F:FA):FE:=λe=>(F e).bind λr=>(m r.1).map λd=>(d,r.2)
@[simp] def io(m:k4->Option k4)(F:FA):FA:=λe=>(F e).bind λr=>(m r.1).map λd=>(d,r.2)
variable{m:k4->k6}{E:XK}
def ID:∀σ H Q,tD X.K G H0 (d5 m F) σ H Q->rz (cM X.K m) [] E (kO X.K G H0 F) σ H Q:=λσ H Q I=>by
 obtain⟨W,env,d,env',ok,q,k⟩:=I;cases e1:F env with
 |none=>simp[e1] at q |some r =>
   obtain⟨ds,env1⟩:=r;cases e2:m ds with
   |none=>simp[e1,e2] at q |some d' =>
     have q:↑(d',env1)=↑(d,env'):=by simpa[d5,e1,e2] using q
     cases q;refine⟨W,env,ds,_,ok,e1,λW1 vs H1 S D p1=>?_⟩;show cM X.K m (vs++[]) H1 Q E;rw[du];refine⟨Ow G W1,ds,_,p1,e2,λv H2 sm U=>?_⟩;refine k W1 v H2 (S.trans (Step.same sm)) (D.same sm) (U.mono (λ_ _ h=>h) λa us o h=>⟨?_,h⟩);rcases o with o |o
     ·exact o
     ·exact⟨D.good a (D.stay.free o),λz=>by obtain⟨_,us,q⟩:=D.wl a z;rw[o] at q;cases q⟩
def IE{m:k4->Option k4}:∀σ H Q,hC X.K G H0 (io m F) σ H Q->rz (kP X.K m) [] E (kO X.K G H0 F) σ H Q:=λσ H Q U=>by
 obtain⟨W,env,d,env',ok,q,k⟩:=U;cases e1:F env with
 |none=>simp[e1] at q |some r =>
   obtain⟨ds,env1⟩:=r;cases e2:m ds with
   |none=>simp[e1,e2] at q |some d' =>
     have q:↑(d',env1)=↑(d,env'):=by simpa[io,e1,e2] using q
     cases q;refine⟨W,env,ds,_,ok,e1,λW1 vs H1 V I p1=>?_⟩;show kP X.K m (vs++[]) H1 Q E;rw[du];refine⟨Ow G W1,ds,_,p1,e2,λl us H2 sm Y S Z=>?_⟩;obtain⟨h1,h2,a,b,c⟩:=I.fresh sm Y S Z;exact k W1 l us H2 (V.trans c) (I.same sm) a h1 S b
variable{jr:Nat}{p':Pos}
def gk(c:bN X.prog X.w X.K X.mg X.base bV x k (cM X.K m))(U:bA jr X.A)(V:e_ X G H0 (e::es) F)(D:k<=jr:=by decide)(Y:Gl X x:=by walk_at "g")(Z:‹starEach (e::es) X.env=(false,eval e X.env)::starEach es X.env›)(I:‹(backTo pos (starEach es X.env)).any (·.1)=false›) :
  aS X G H0 (.Call (.Name x p') (e::es) [] pos) (d5 m F):=let ⟨_,_,_,a,b,d,f,S⟩:=c;⟨(rA a (U.mono D) Y b d f .nil rF V.out S Z I).imp ID⟩
variable{mF:k4->Option k4}
def za(c:bN X.prog X.w X.K X.mg X.base bV x k (kP X.K mF))(U:bA jr X.A)(V:e_ X G H0 (e::es) F)(D:k<=jr:=by decide)(Y:Gl X x:=by walk_at "g")(Z:‹starEach (e::es) X.env=(false,eval e X.env)::starEach es X.env›)(I:‹(backTo pos (starEach es X.env)).any (·.1)=false›) :
  fW X G H0 (.Call (.Name x p') (e::es) [] pos) (io mF F):=let ⟨_,_,_,a,b,d,f,S⟩:=c;⟨(rA a (U.mono D) Y b d f .nil rF V.out S Z I).imp IE⟩
def wf(X:Cx)(G:Gd)(H0:Hp)(r:kv->Hp->VK->Prop)(op:k4->k6):Prop :=
 ∀W env σ H vs ds d (Q:VK),Ok X.K G H0 W env σ H->aL X.K H (Ow G W) ds vs->op ds=↑d ->
  (∀v H',Step W H W H'->Ok X.K G H0 W env σ H'->bB X.K H' (Ow G W) d v->Q v H')->r vs H Q
def x5(X:Cx)(G:Gd)(H0:Hp)(r:kv->Hp->VK->Prop)(op:k4->Option k4):Prop :=
 ∀W env σ H vs ds rs (Q:VK),Ok X.K G H0 W env σ H->aL X.K H (Ow G W) ds vs->op ds=↑rs ->
  (∀l us H',Step W H (cE W l) H'->Ok X.K G H0 W env σ H'->Ok X.K G H0 (cE W l) env σ H'->¬W l->H' l=↑(.lst us)->aL X.K H' (Ow G (cE W l)) rs us->Q (.ref l) H')->r vs H Q
variable{r:kv->Hp->VK->Prop}
def C2(hd:wf X G H0 r op):∀σ H Q,tD X.K G H0 (d5 op F) σ H Q->rB r (kO X.K G H0 F) σ H Q:=λσ H Q S=>by
 obtain⟨W,env,d,env',ok,q,k⟩:=S;cases e1:F env with
 |none=>simp[e1] at q |some z =>
   obtain⟨ds,env1⟩:=z;cases e2:op ds with
   |none=>simp[e1,e2] at q |some d' =>
     have q:↑(d',env1)=↑(d,env'):=by simpa[d5,e1,e2] using q
     cases q;exact⟨W,env,ds,_,ok,e1,λW1 vs H1 U D p1=>hd W1 _ σ H1 vs ds _ Q D p1 e2 λv H2 s2 I p2=>k W1 v H2 (U.trans s2) I p2⟩
def IF{op:k4->Option k4}(hd:x5 X G H0 r op):∀σ H Q,hC X.K G H0 (io op F) σ H Q->rB r (kO X.K G H0 F) σ H Q:=λσ H Q V=>by
 obtain⟨W,env,d,env',ok,q,k⟩:=V;cases e1:F env with
 |none=>simp[e1] at q |some z =>
   obtain⟨ds,env1⟩:=z;cases e2:op ds with
   |none=>simp[e1,e2] at q |some d' =>
     have q:↑(d',env1)=↑(d,env'):=by simpa[io,e1,e2] using q
     cases q;exact⟨W,env,ds,_,ok,e1,λW1 vs H1 Y I p1=>hd W1 _ σ H1 vs ds _ Q I p1 e2 λl us H2 s2 S U Z a b=>k W1 l us H2 (Y.trans s2) S U Z a b⟩
variable{id:String}
def xA(S:q9 X (.builtin id) r)(hd:wf X G H0 r op)(U:Gl X x)(V:X.mg x=none)(Y:bootBuiltins x=↑(.builtin id))(Z:e_ X G H0 (e::es) F)(a:x ≠ "__name__":=by decide)(D:(x==("__debug__" : Str))=false:=by decide)(b:‹starEach (e::es) X.env=(false,eval e X.env)::starEach es X.env›)(I:‹(backTo pos (starEach es X.env)).any (·.1)=false›):aS X G H0 (.Call (.Name x p') (e::es) [] pos) (d5 op F):=⟨(mu S U V Y Z.out a D b I).imp (C2 hd)⟩
variable{T:String}
def xB(S:q9 X (.type T) r)(hd:wf X G H0 r op)(U:Gl X x)(V:X.mg x=none)(Y:bootBuiltins x=↑(.type T))(Z:e_ X G H0 (e::es) F)(a:x ≠ "__name__":=by decide)(D:(x==("__debug__" : Str))=false:=by decide)(b:‹starEach (e::es) X.env=(false,eval e X.env)::starEach es X.env›)(I:‹(backTo pos (starEach es X.env)).any (·.1)=false›):aS X G H0 (.Call (.Name x p') (e::es) [] pos) (d5 op F):=⟨(wE S U V Y Z.out a D b I).imp (C2 hd)⟩
variable{opF:k4->Option k4}
def IG(S:q9 X (.type T) r)(hd:x5 X G H0 r opF)(U:Gl X x)(V:X.mg x=none)(Y:bootBuiltins x=↑(.type T))(Z:e_ X G H0 (e::es) F)(a:x ≠ "__name__":=by decide)(D:(x==("__debug__" : Str))=false:=by decide)(b:‹starEach (e::es) X.env=(false,eval e X.env)::starEach es X.env›)(I:‹(backTo pos (starEach es X.env)).any (·.1)=false›):fW X G H0 (.Call (.Name x p') (e::es) [] pos) (io opF F):=⟨(wE S U V Y Z.out a D b I).imp (IF hd)⟩
def ui(h:aL K H O [d] vs):∃v,vs=[v]/\bB K H O d v:=by
 cases h with |cons r t=>cases t;exact⟨_,rfl,r⟩
def rL(h:aL K H O [d,d'] vs):∃v D,vs=[v,D]/\bB K H O d v/\bB K H O d' D:=by
 cases h with |cons r t=>cases t with |cons r' t=>cases t;exact⟨_,_,rfl,r,r'⟩
@[simp] def dO:k4->k6 | [.tup ds]=>↑↥ds.length | [.lst ds]=>↑↥ds.length |_=>none
def IH:wf X G H0 (λxs H Q=>∃p ys,xs=[.ref p]/\(dH X.K H p ys\/eG X.K H p ys)/\Q ↥ys.length H) dO:=by
 intro W env σ H vs ds d Q ok r e k;unfold dO at e;split at e
 ·rename_i ds
  cases e;obtain⟨v,rfl,D⟩:=ui r;have r:=D;obtain⟨a,us,rfl,h,r⟩:=r.tup_;exact⟨a,us,rfl,.inr (eG.of h),by rw[<-r.length];exact k _ H Step.refl ok ↥_⟩
 ·rename_i ds
  cases e;obtain⟨v,rfl,D⟩:=ui r;have r:=D;obtain⟨a,us,rfl,h,r⟩:=r.lst_;exact⟨a,us,rfl,.inl h.sq,by rw[<-r.length];exact k _ H Step.refl ok ↥_⟩
 ·cases e
def xq(I:e_ X G H0 [e] F)(D:Bn X "len":=by walk_at "b")(S:‹starEach [e] X.env=(false,eval e X.env)::starEach [] X.env›):aS X G H0 (.Call (.Name "len" p') [e] [] pos) (d5 dO F) :=
 xA wI IH D.g D.m ye I (by decide) (by decide) S rfl
@[simp] def jF:k4->k6 | [↥i]=>↑↥i | [.bl k]=>↑↥(if k then 1 else 0) |_=>none
def II:wf X G H0 (λxs H Q=>(∃i,xs=[↥i]/\Q ↥i H)\/∃k,xs=[.bl k]/\Q ↥(if k then 1 else 0) H) jF:=by
 intro W env σ H vs ds d Q ok r e k;unfold jF at e;split at e
 ·cases e
  obtain⟨v,rfl,D⟩:=ui r;have r:=D;exact .inl ⟨_,by rw[r.int_],k _ H Step.refl ok ↥_⟩
 ·cases e
  obtain⟨v,rfl,D⟩:=ui r;have r:=D;exact .inr ⟨_,by rw[r.bl_],k _ H Step.refl ok ↥_⟩
 ·cases e
def IJ:bootBuiltins "int" = ↑(.type "int"):=by decide +kernel
def IK(I:e_ X G H0 [e] F)(D:Bn X "int":=by walk_at "b")(S:‹starEach [e] X.env=(false,eval e X.env)::starEach [] X.env›):aS X G H0 (.Call (.Name "int" p') [e] [] pos) (d5 jF F) :=
 xB Hb II D.g D.m IJ I (by decide) (by decide) S rfl
@[simp] def jG:k4->k6 | [↥i,↥j]=>↑↥(if j > i then j else i) |_=>none
def IL:wf X G H0 (λxs H Q=>∃i j,xs=[↥i,↥j]/\Q ↥(if j > i then j else i) H) jG:=by
 intro W env σ H vs ds d Q ok r e k;unfold jG at e;split at e
 ·cases e
  obtain⟨v,S,rfl,D,I⟩:=rL r;have r:=D;exact⟨_,_,by rw[r.int_,I.int_],k _ H Step.refl ok ↥_⟩
 ·cases e
def C3(S:e_ X G H0 [a,b] F)(U:‹X.calm=true›)(I:Bn X "max":=by walk_at "b")(V:‹starEach [a,b] X.env=(false,eval a X.env)::starEach [b] X.env›)(D:‹(backTo pos (starEach [b] X.env)).any (·.1)=false›):aS X G H0 (.Call (.Name "max" p') [a,b] [] pos) (d5 jG F) :=
 xA (Ha U) IL I.g I.m boot_max S (by decide) (by decide) V D
def dM:k4->Option ik
 | []=>↑[] | .int i::r=>(dM r).map (i::·)
 |_::_=>none
def rM:∀ {ds:k4} {ns:ik},dM ds=↑ns->ds=ns.map D.int
 | [],ns,h=>by cases h;rfl
 | .int i::r,ns,h=>by
   unfold dM at h;cases q:dM r with
   |none=>rw[q] at h;cases h
   |some ms=>rw[q] at h;cases h;rw[rM q];rfl
 | .str _::_,_,h=>by cases h
def C4(ns:ik):dM (ns.map D.int)=↑ns:=by
 induction ns with
 |nil=>rfl |cons n r ih=>show(dM (r.map D.int)).map (n::·)=_;rw[ih];rfl
def rN{K:kf}{H:Hp}{O:Addr->Prop}:∀ {ns:ik} {vs:kv},aL K H O (ns.map D.int) vs->vs=ns.map V.int
 | [],_,h=>by cases h;rfl
 |n::r,_,h=>by cases h with |cons a t=>rw[rN t,a.int_];rfl
def C5(Y:X.calm=true):q9 X (.builtin "sum") (λxs H Q=>∃p,∃ns:ik,xs=[.ref p]/\dH X.K H p (ns.map V.int)/\Q ↥ns.sum H):=by
 intro pins s σ H xs us Q I r h;obtain⟨p,ns,rfl,Z,q⟩:=h;obtain⟨u,rfl,a⟩:=xn r;cases a;obtain⟨its,b,pl,e⟩:=I.list Z;have hi:IntsAre its ns:=Hy b;have S:=pl.isList;obtain⟨xs,D⟩:=hi.allInts.items;rw[D] at S;refine sum_intListG (I.ok.hd Y) S λh' tk t' c=>⟨.int ns.sum,H,I.kept c,⟨t',?_⟩,q⟩;have d:numsOf its=ns:=hi.numsOf;have U:numsOf (intItems xs).toList=ns:=by rw[<-D];exact d
 rw[nums_intItems] at U;rw[preSum_eq,j8 ⋯,U]
def fE:k4->k6 | [.lst ds]=>(dM ds).map λns=>.int ns.sum |_=>none
def IM:wf X G H0 (λxs H Q=>∃p,∃ns:ik,xs=[.ref p]/\dH X.K H p (ns.map V.int)/\Q ↥ns.sum H) fE:=by
 intro W env σ H vs ds d Q ok r e k;unfold fE at e;split at e
 ·rename_i ds
  cases q:dM ds with
  |none=>rw[q] at e;cases e
  |some ns =>
    rw[q] at e;cases e;obtain⟨v,rfl,D⟩:=ui r;have r:=D;obtain⟨a,us,rfl,h,r⟩:=r.lst_;rw[rM q] at r;rw[rN r] at h;exact⟨a,ns,rfl,h.sq,k _ H Step.refl ok ↥_⟩
 ·cases e
def yq(I:e_ X G H0 [e] F)(S:‹X.calm=true›)(D:Bn X "sum":=by walk_at "b")(U:‹starEach [e] X.env=(false,eval e X.env)::starEach [] X.env›):aS X G H0 (.Call (.Name "sum" p') [e] [] pos) (d5 fE F) :=
 xA (C5 S) IM D.g D.m boot_sum I (by decide) (by decide) U rfl
@[simp] def qj:k4->Option k4 | [.lst ds]=>↑ds | [.tup ds]=>↑ds |_=>none
def IN:x5 X G H0 (λxs H Q=>∃p ys,xs=[.ref p]/\(dH X.K H p ys\/eG X.K H p ys)/\∀l,H l=none->Q (.ref l) (aX H l (.lst ys))) qj:=by
 intro W env σ H vs ds Z Q ok r e k;unfold qj at e;split at e
 ·cases e
  obtain⟨v,rfl,D⟩:=ui r;have r:=D;obtain⟨a,us,rfl,h,r⟩:=r.lst_;refine⟨a,us,rfl,.inl h.sq,λl I=>?_⟩;obtain⟨h1,h2,S,U,V,Y⟩:=yr ok r I;exact k l us _ h1 h2 S U V Y
 ·cases e
  obtain⟨v,rfl,D⟩:=ui r;have r:=D;obtain⟨a,us,rfl,h,r⟩:=r.tup_;refine⟨a,us,rfl,.inr (eG.of h),λl I=>?_⟩;obtain⟨h1,h2,S,U,V,Y⟩:=yr ok r I;exact k l us _ h1 h2 S U V Y
 ·cases e
def C6:bootBuiltins "list" = ↑(.type "list"):=by decide +kernel
def mE(I:e_ X G H0 [e] F)(D:Bn X "list":=by walk_at "b")(S:‹starEach [e] X.env=(false,eval e X.env)::starEach [] X.env›):fW X G H0 (.Call (.Name "list" p') [e] [] pos) (io qj F) :=
 IG Cb IN D.g D.m C6 I (by decide) (by decide) S rfl
def xC(lo hi:Int):ik:=(List.range (hi-lo).toNat).map λ(k:Nat)=>lo+(k:Int)
def xD{K:kf}{H:Hp}{O:Addr->Prop}:∀(ns:ik),aL K H O (ns.map D.int) (ns.map V.int)
 | []=>.nil |n::r=>.cons ↥n (xD r)
abbrev FO:=aP->Option (kb×aP)
def IP(K:kf)(G:Gd)(H0:Hp)(f:FO):TO:=λσ H Q=>DP K G H0 f (λW env o env'=> ∀W' H',Step W H W' H'->Ok K G H0 W' env' σ H'->Q o H') σ H
structure rO (X:Cx) (G:Gd) (H0:Hp) (e:Option Expr) (f:FO):Prop where
 out:PO X e (IP X.K G H0 f)
variable{t':TI}
def PO.imp{e:Option Expr}{t t':TO}(h:PO X e t)(i:∀σ H Q,t' σ H Q->t σ H Q):PO X e t':=λpins s σ H Q I q=>h pins s σ H Q I (i σ H Q q)
@[simp] def fY:FO:=λe=>↑(none,e)
@[simp] def fF(f:FE):FO:=λe=>(f e).bind λr=>match r.1 with | .int i=>↑(↑i,r.2) |_=>none
def tz  : rO X G H0 none fY:=⟨Hz.imp λσ H Q ⟨W,env,o,env',ok,q,k⟩=>by cases q;exact k W H Step.refl ok⟩
def qc(h:aS X G H0 e f):rO X G H0 ↑e (fF f):=⟨(H5 h.out).imp λσ H Q I=>by
 obtain⟨W,env,o,env',ok,q,k⟩:=I;cases e1:f env with
 |none=>simp[e1] at q |some r =>
   obtain⟨d,env1⟩:=r;cases d with
   |int i =>
     have q:↑(↑i,env1)=↑(o,env'):=by simpa[fF,e1] using q
     cases q;exact⟨W,env,_,_,ok,e1,λW1 v1 H1 S D p1=>⟨i,p1.int_,k W1 H1 S D⟩⟩
   |_=>simp[e1] at q⟩
def cutD(xs:k4)(lo hi:kb):k4:=(xs.drop (HT.sIx xs.length 0 lo)).take (HT.sIx xs.length xs.length hi-HT.sIx xs.length 0 lo)
def aL.cut(r:aL K H O ds vs)(lo hi:kb):aL K H O (cutD ds lo hi) (iK vs lo hi):=by
 unfold cutD iK;rw[r.length];exact(r.drop _).take _
@[simp] def fI(f:FE)(l h:FO):FA:=λe=>(f e).bind λr=>(l r.2).bind λD=>(h D.2).bind λI=>match r.1 with | .lst ds=>↑(cutD ds D.1 I.1,I.2) |_=>none
def qr{lo hi:Option Expr}{fl U:FO}{sp:Pos}(e:aS X G H0 a f)(g:rO X G H0 lo fl)(i:rO X G H0 hi U) :
  fW X G H0 (.Subscript a (.Slice lo hi none sp) pos) (fI f fl U):=⟨(HB HM e.out g.out i.out).imp λσ H Q j=>by
 obtain⟨W,env,d,env',ok,q,k⟩:=j;cases e1:f env with
 |none=>simp[e1] at q |some r =>
   obtain⟨m,env1⟩:=r;cases e2:fl env1 with
   |none=>simp[e1,e2] at q |some r2 =>
     obtain⟨Z,D⟩:=r2;cases e3:U D with
     |none=>simp[e1,e2,e3] at q |some r3 =>
       obtain⟨b,I⟩:=r3;cases m with
       |lst ds =>
         have q:↑(cutD ds Z b,I)=↑(d,env'):=by simpa[fI,e1,e2,e3] using q
         cases q;refine⟨W,env,_,_,ok,e1,λW1 v1 H1 n S p1=>⟨W1,env1,_,_,S,e2,λo H2 s2 V=>⟨o,D,_,_,V,e3,λp x c Y=>?_⟩⟩⟩;obtain⟨l,us,rfl,h,r⟩:=(S.rep (s2.trans c) p1).lst_;refine⟨l,us,rfl,h.sq,λl' s=>?_⟩;obtain⟨h1,h2,t,u,v,w⟩:=yr Y (r.cut Z b) s;exact k p l' _ _ (((n.trans s2).trans c).trans h1) h2 t u v w
       |_=>simp[e1,e2,e3] at q⟩
def IQ(K:kf):R2:=λx y H Q=>∃l b xs D,x=.ref l/\y=.ref b/\dH K H l xs/\dH K H b D/\xs.length+D.length<=sizeLine/\∀p,H p=none->Q (.ref p) (aX H p (.lst (xs++D)))
theorem IR:fV X (binaryOp .Add) (IQ X.K):=by
 intro pins s σ H x y v u Q I f g h;obtain⟨l,b,xs,t,rfl,rfl,i,j,w,q⟩:=h;cases f;cases g;obtain⟨its,r,⟨⟨cls,dd,data,sl⟩,n,c,k,V,hd⟩,z⟩:=I.list i;obtain⟨D,d,⟨⟨e,m,data2,Y⟩,o,S,Z,U,a⟩,A⟩:=I.list j;subst k hd Z a V U;have B:=r.length;have p:=d.length;refine concat_meets ⟨_,c,rfl⟩ ⟨_,S,rfl⟩ noFill_list_add seq_list_add PySem.F.slot_list_add PySem.F.entry_list_add (PySem.F.args_list_add_2 _ _) (list_addW l b its.toArray D.toArray n o none none sl Y (by simp;lia)) ⟨c,S,?_⟩;have ea:its.toArray++D.toArray=(its++D).toArray:=by simp
 rw[ea];exact⟨.ref _,_,I.lnew (t':=s.toks) (r.append d) (by rw[ax];lia),rfl,q _ I.fresh⟩
@[simp] def bW(f g:FE):FA:=λe=>(f e).bind λr=>(g r.2).bind λq=>match r.1,q.1 with | .lst ds,.lst es=>if cI (ds.length+es.length) then ↑(ds++es,q.2) else none |_,_=>none
def ng(Z:aS X G H0 a f)(c:aS X G H0 b g):fW X G H0 (.BinOp a .Add b pos) (bW f g):=⟨(ri IR Z.out c.out).imp λσ H Q e=>by
 obtain⟨W,env,d,env',ok,q,k⟩:=e;cases e1:f env with
 |none=>simp[e1] at q |some r =>
   obtain⟨i,env1⟩:=r;cases e2:g env1 with
   |none=>simp[e1,e2] at q |some r2 =>
     obtain⟨j,D⟩:=r2;cases i with
     |lst ds =>
       cases j with
       |lst es =>
         by_cases S:cI (ds.length+es.length)
         ·have q:↑(ds++es,D)=↑(d,env'):=by simpa only[bW,e1,e2,ac,am S] using q
          cases q;refine⟨W,env,_,_,ok,e1,λW1 v1 H1 m I p1=>⟨W1,env1,_,_,I,e2,λo v2 H2 s2 U p2=>?_⟩⟩;obtain⟨l,us,rfl,h,r⟩:=(I.rep s2 p1).lst_;obtain⟨l',V,rfl,h',Y⟩:=p2.lst_;refine⟨l,l',us,V,rfl,rfl,h.sq,h'.sq,?_,λn p=>?_⟩
          ·rw[<-r.length,<-Y.length];exact d7 S (by rw[gz];decide)
          ·obtain⟨h1,h2,s,t,u,v⟩:=yr U (r.append Y) p
           exact k o n _ _ ((m.trans s2).trans h1) h2 s t u v
         ·simp only[bW,e1,e2,ac,bw S] at q;cases q
       |_=>simp[e1,e2] at q
     |_=>simp[e1,e2] at q⟩
@[simp] def jh(i:Nat):FE:=λe=>match e[i]? with
 |some ↑(.ow ds)=>↑(.int ds.length,e) |some ⇑(.lst ds)=>↑(.int ds.length,e) |some ⇑(.tup ds)=>↑(.int ds.length,e) |_=>none
variable{p1:Pos}
def lc(an:bR Nn Cn X)(U:Bn X "len":=by walk_at "b")(S:‹Nn[i]?=↑x›)(V:‹starEach [.Name x p1] X.env=(false,eval (.Name x p1) X.env)::starEach [] X.env›):aS X G H0 (.Call (.Name "len" p') [.Name x p1] [] pos) (jh i) :=
 ⟨(mu wI U.g U.m ye (om ((an.a S).pe) tw V) (by decide) (by decide) V rfl).imp λσ H Q Y=>by
  obtain⟨W,env,d,env',ok,q,k⟩:=Y;unfold jh at q;split at q
  ·rename_i ds D
   cases q;obtain⟨v,I,l,vs,rfl,b,Z,r⟩:=ok.slot i _ D;exact⟨_,I,l,vs,rfl,.inl (.inl (.inl Z)),by rw[<-r.length];exact k W _ H Step.refl ok ↥_⟩
  ·rename_i ds D
   cases q;obtain⟨v,I,r⟩:=ok.slot i _ D;obtain⟨l,us,rfl,h,r⟩:=bB.lst_ r;exact⟨_,I,l,us,rfl,.inl h.sq,by rw[<-r.length];exact k W _ H Step.refl ok ↥_⟩
  ·rename_i ds D
   cases q;obtain⟨v,I,r⟩:=ok.slot i _ D;obtain⟨l,us,rfl,h,r⟩:=bB.tup_ r;exact⟨_,I,l,us,rfl,.inr (eG.of h),by rw[<-r.length];exact k W _ H Step.refl ok ↥_⟩
  ·cases q⟩
@[simp] def bP:D->Option k8->k6
 | .int k,↑↑(.ow ds)=>bG ds k | .int k,↑⇑(.lst ds)=>bG ds k | .int k,↑⇑(.tup ds)=>bG ds k |_,_=>none
@[simp] def aF(i:Nat)(g:FE):FE:=λe=>match e[i]? with
 |some ↑_=>(g e).bind λr=>(bP r.1 r.2[i]?).map λd=>(d,r.2)
 |_=>none
def e7(m:aS X G H0 b g)(an:bR Nn Cn X)(n:zb b:=by intro _ _;rfl)(Z:‹Nn[i]?=↑x›):aS X G H0 (.Subscript (.Name x p1) b pos) (aF i g) :=
 ⟨(nT B_ ((an.a Z).pe) m.out n).imp λσ H Q o=>by
  obtain⟨W,env,d,env',ok,q,k⟩:=o;unfold aF at q;split at q;case h_2=>cases q
  rename_i s c;obtain⟨v,Y,_⟩:=ok.slot i _ c;cases e1:g env with
  |none=>rw[e1] at q;cases q
  |some r =>
    obtain⟨f,env1⟩:=r;rw[e1,ac] at q;cases e3:bP f env1[i]? with
    |none=>rw[e3] at q;cases q
    |some d' =>
      rw[e3] at q;cases q;refine⟨v,Y,W,env,f,_,ok,e1,λW1 v1 H1 e D p1=>?_⟩;unfold bP at e3;split at e3
      ·rename_i kk ds S
       obtain⟨j,I,l,vs,rfl,t,p,r⟩:=D.slot i _ S;rw[Y] at I;cases I;obtain⟨u,U,V⟩:=m2 r e3;exact .inl ⟨l,vs,kk,u,rfl,p1.int_,.inl (.inl p),U,k W1 _ H1 e D V⟩
      ·rename_i kk ds S
       obtain⟨j,I,r⟩:=D.slot i _ S;rw[Y] at I;cases I;obtain⟨l,us,rfl,h,r⟩:=bB.lst_ r;obtain⟨u,U,V⟩:=m2 r e3;exact .inl ⟨l,us,kk,u,rfl,p1.int_,h.sq,U,k W1 _ H1 e D V⟩
      ·rename_i kk ds S
       obtain⟨j,I,r⟩:=D.slot i _ S;rw[Y] at I;cases I;obtain⟨l,us,rfl,h,r⟩:=bB.tup_ r;obtain⟨u,U,V⟩:=m2 r e3;exact .inr (.inl ⟨l,us,kk,u,rfl,p1.int_,eG.of h,U,k W1 _ H1 e D V⟩)
      ·cases e3⟩
@[simp] def oB:D->String | .non=>"NoneType" | .bl _=>"bool" | .int _=>"int" | .str _=>"str" | .tup _=>"tuple" | .lst _=>"list" | .dct _ _=>"dict" | .exc _=>"exc"
@[simp] def oD(t T:String):Bool:=t==T || (t=="bool" && T=="int")
def xE(T:String):Bool:=T=="int" || T=="bool" || T=="str" || T=="tuple" || T=="list"
def IS(K:kf)(d:D)(T:String)(h:xE T=true)(hd:∀a,d≠.exc a):PySem.W.kitOne K (.type (oB d)) (.type T)=↑(oD (oB d) T):=by
 simp only[xE,Bool.or_eq_true,l6] at h;rcases h with(((rfl |rfl) |rfl) |rfl) |rfl <;> cases d <;> first |rfl |exact absurd rfl (hd _)
def IT:q9 X (.builtin "isinstance") (λxs H Q=>∃x T t b,xs=[x,.ty T]/\(fD X.K H x t\/(t=.type "list"/\∃a us,x=.ref a/\dH X.K H a us))/\PySem.W.kitOne X.K t (.type T)=↑b/\Q (.bl b) H):=by
 intro pins s σ H xs us Q I r h;obtain⟨x,T,t,b,rfl,ty,e,q⟩:=h;obtain⟨u,S,rfl,D,rt⟩:=rl r;cases (show S=Value.type T from rt);rcases ty with ty | ⟨rfl,a,ws,rfl,hq⟩
 ·exact Hn I D ty e λtk=>⟨.bl b,H,I.tok tk,rfl,q⟩
 ·cases (show u=Value.ref a from D)
  obtain⟨its,_,⟨o,n,h1,h2,_⟩,_⟩:=I.list hq;exact fj sg I.kIn ⟨o,h1,h2⟩ e (λz=>nomatch z) λtk=>⟨.bl b,H,I.tok tk,rfl,q⟩
def IU(r:bB K H O d v)(hd:∀a,d≠.exc a):fD K H v (.type (oB d))\/(Value.type (oB d)=.type "list"/\∃a us,v=.ref a/\dH K H a us):=by
 cases r with
 |non=>exact .inl .non |bl b=>exact .inl (.bl b) |int i=>exact .inl ↥i
 |str s=>exact .inl (.str s) |tup h _=>exact .inl (.tup h) |lst o h _=>exact .inr ⟨rfl,_,_,rfl,.inl h⟩ |klst h _=>exact .inr ⟨rfl,_,_,rfl,.inr h⟩ |dct h _=>exact .inl (.dK h) |exc a=>exact absurd rfl (hd a)
def C7:bootBuiltins "isinstance" = ↑(.builtin "isinstance"):=by decide +kernel
@[simp] def fJ(T:String)(f:FE):FE:=λe=>(f e).bind λr=>match r.1 with | .exc _=>none |d=>↑(.bl (oD (oB d) T),r.2)
structure Ty (x:Str) (T:String):Prop where
 b:bootBuiltins x=↑(.type T)
 k:xE T=true
 d:(x==("__debug__" : Str))=false
 n:x ≠ "__name__"
def wo(ty:Ty x T)(c:aS X G H0 a f)(Y:Bn X "isinstance":=by walk_at "b")(D:Gl X x:=by walk_at "g")(I:X.mg x=none:=by assumption)(Z:‹starEach [a,.Name x p1] X.env=(false,eval a X.env)::starEach [.Name x p1] X.env›)(S:‹starEach [.Name x p1] X.env=(false,eval (.Name x p1) X.env)::starEach [] X.env›)(U:‹(backTo pos (starEach [.Name x p1] X.env)).any (·.1)=false›) :
  aS X G H0 (.Call (.Name "isinstance" p') [a,.Name x p1] [] pos) (fJ T f) :=
 ⟨(mu IT Y.g Y.m C7 (om c.out (om (Bw (v:=.ty T) D I ty.b rfl ty.n ty.d) tw S) Z) (by decide) (by decide) Z U).imp λσ H Q e=>by
  obtain⟨W,env,d,env',ok,q,k⟩:=e;cases e1:f env with
  |none=>simp[e1] at q |some r =>
    unfold fJ at q;rw[e1,ac] at q;split at q
    ·cases q
    ·rename_i hd
     cases q;exact⟨W,env,_,_,ok,e1,λW1 v1 H1 h V p1=>⟨v1,T,_,_,rfl,IU p1 hd,IS X.K _ T ty.k hd,k W1 _ H1 h V (.bl _)⟩⟩⟩
abbrev FI:=aP->Option (k4×aP)
structure Walk (K:kf) (G:Gd) (J:It) (W:Addr->Prop) (H:Hp) (ds:k4):Prop where
 go:∀W' H' (i:Nat) d,Step W H W' H'->ds[i]?=↑d->J.go i H'/\∀x H'',J.yld i H' x H''->H''=H'/\bB K H' (Ow G W') d x
 stop:∀W' H',Step W H W' H'->J.stop ds.length H'
def xF(K:kf)(G:Gd)(H0:Hp)(f:FI):TI:=λσ H R=>DP K G H0 f (λW env ds env' =>
 ∀W' J H',Step W H W' H'->Ok K G H0 W' env' σ H'->Walk K G J W' H' ds->R J H') σ H
structure rP (Cm:Cx->Prop) (X:Cx) (G:Gd) (H0:Hp) (tg:Expr) (e:Expr) (f:FI):Prop where
 out:jU Cm X tg e (xF X.K G H0 f)
abbrev iX:=rP λX=>X.calm=true
def PI.imp(h:PI X tg e t)(i:∀σ H Q,t' σ H Q->t σ H Q):PI X tg e t':=λpins s σ H Q I q=>h pins s σ H Q I (i σ H Q q)
def jU.imp(h:jU Cm X tg e t)(i:∀σ H Q,t' σ H Q->t σ H Q):jU Cm X tg e t':=λpins s σ H Q I q=>h pins s σ H Q I (i σ H Q q)
def C8{a:Addr}(ok:Ok X.K G H0 W env σ H)(h:gQ X.K H (Ow G W) a vs)(r:aL X.K H (Ow G W) ds vs):Walk X.K G (vX X.K a) W H ds where
 go:=λW' H' i d st e=>by
  obtain⟨v,D,I⟩:=(ok.reps st r).get e;have h':=(ok.lsstep st h).sq;exact⟨⟨vs,v,h',D⟩,λx H'' ⟨e2,y⟩=>⟨e2,by have:=y vs h';rw[D] at this;cases this;exact I⟩⟩
 stop:=λW' H' st=>⟨vs,(ok.lsstep st h).sq,by rw[r.length];exact cw _⟩
def IV{a:Addr}(ok:Ok X.K G H0 W env σ H)(h:H a=↑(.tup vs))(r:aL X.K H (Ow G W) ds vs):Walk X.K G (vY X.K a) W H ds where
 go:=λW' H' i d st e=>by
  obtain⟨v,D,I⟩:=(ok.reps st r).get e;have h':=ok.tstep st a vs h;exact⟨⟨vs,v,eG.of h',D⟩,λx H'' ⟨e2,y⟩=>⟨e2,by have:=y vs (eG.of h');rw[D] at this;cases this;exact I⟩⟩
 stop:=λW' H' st=>⟨vs,eG.of (ok.tstep st a vs h),by rw[r.length];exact cw _⟩
def C9{lo:Int}:Walk X.K G (jV lo n) W H ((List.range n).map λ(k:Nat)=>D.int (lo+(k:Int))) where
 go:=λW' H' i d st e=>by
  rw[cb] at e;have hi:i<n:=by
   have:=(aj.mp (show((List.range n).map λ(k:Nat)=>D.int (lo+(k:Int)))[i]?=↑d by rw[cb];exact e)).1;simpa using this
  rw[List.getElem?_range hi] at e;cases e;exact⟨hi,λx H'' ⟨e2,y⟩=>⟨e2,by rw[y];exact .int _⟩⟩
 stop:=λW' H' st=>by rw[ai,j9];exact cw _
@[simp] def cP(f:FE):FI:=λe=>(f e).bind λr=>match r.1 with | .lst ds=>↑(ds,r.2) | .tup ds=>↑(ds,r.2) |_=>none
def PI.or(h:PI X tg e t)(h':PI X tg e t'):PI X tg e (λσ H R=>t σ H R\/t' σ H R):=λpins s σ H R I q=>q.elim (h pins s σ H R I) (h' pins s σ H R I)
def kg(h:aS X G H0 e f):iX X G H0 tg e (cP f):=⟨((v_ h.out).or (GI h.out)).imp λσ H R S=>by
 obtain⟨W,env,ds,env',ok,q,k⟩:=S;cases e1:f env with
 |none=>simp[e1] at q |some r =>
   obtain⟨d,env1⟩:=r;cases d with
   |lst ds' =>
     have q:↑(ds',env1)=↑(ds,env'):=by simpa[cP,e1] using q
     cases q;refine .inl ⟨W,env,_,_,ok,e1,λW1 v1 H1 I D p1=>?_⟩;obtain⟨a,vs,rfl,h.out,r⟩:=p1.lst_;exact⟨a,rfl,⟨vs,h.out.sq⟩,k W1 _ H1 I D (C8 D h.out r)⟩
   |tup ds' =>
     have q:↑(ds',env1)=↑(ds,env'):=by simpa[cP,e1] using q
     cases q;refine .inr ⟨W,env,_,_,ok,e1,λW1 v1 H1 I D p1=>?_⟩;obtain⟨a,vs,rfl,h.out,r⟩:=p1.tup_;exact⟨a,rfl,⟨vs,eG.of h.out⟩,k W1 _ H1 I D (IV D h.out r)⟩
   |_=>simp[e1] at q⟩
def bS(lo:Int)(n:Nat):k4:=(List.range n).map λ(k:Nat)=>D.int (lo+(k:Int))
def fP(ds:k4):Option k4:=match ds with | [↥j]=>if iW (-(2 ^ 62)) (2 ^ 62) j then ↑(bS 0 j.toNat) else none |_=>none
def rQ(ds:k4):Option k4:=match ds with | [↥i,↥j]=>if iW (-(2 ^ 62)) (2 ^ 62) i/\iW (-(2 ^ 62)) (2 ^ 62) j then ↑(bS i (j-i).toNat) else none |_=>none
def CA(hT:∀(it:Addr) (lo:Int) (n:Nat),ym Cm X.prog X.w X.K tg (jV lo n) [it] it (λi h=>IsRangeIter h it (lo+(i:Nat)*1) ((n:Int)-(i:Nat)) 1))(U:e_ X G H0 [a] F)(I:Bn X "range":=by walk_at "b")(V:‹starEach [a] X.env=[(false,eval a X.env)]›):rP Cm X G H0 tg (.Call (.Name "range" p') [a] [] pos) (io fP F) :=
 ⟨jU.imp (GL hT I.g I.m U.out V) λσ H R Y=>by
  obtain⟨W,env,ds,env',ok,q,k⟩:=Y;cases e1:F env with
  |none=>simp[e1] at q |some z =>
    obtain⟨as,env1⟩:=z;cases e2:fP as with
    |none=>simp[e1,e2] at q |some d' =>
      have q:↑(d',env1)=↑(ds,env'):=by simpa[io,e1,e2] using q
      cases q;refine⟨W,env,as,_,ok,e1,λW1 vs H1 Z D p1=>?_⟩;unfold fP at e2;split at e2
      ·rename_i j
       split at e2
       ·rename_i S
        cases e2;obtain⟨v,rfl,b⟩:=ui p1;cases b;exact⟨j,rfl,S.1,S.2,k W1 _ H1 Z D C9⟩
       ·cases e2
      ·cases e2⟩
def ud(D:e_ X G H0 [a] F)(I:Bn X "range":=by walk_at "b")(S:‹starEach [a] X.env=[(false,eval a X.env)]›):iX X G H0 tg (.Call (.Name "range" p') [a] [] pos) (io fP F):=CA (λit lo n=>nN it lo n) D I S
def IW(V:e_ X G H0 [a,b] F)(U:Bn X "range":=by walk_at "b")(Y:‹starEach [a,b] X.env=[(false,eval a X.env),(false,eval b X.env)]›)(I:‹starEach [b] X.env=[(false,eval b X.env)]›) :
  iX X G H0 tg (.Call (.Name "range" p') [a,b] [] pos) (io rQ F) :=
 ⟨(GM U.g U.m V.out Y I).imp λσ H R Z=>by
  obtain⟨W,env,ds,env',ok,q,k⟩:=Z;cases e1:F env with
  |none=>simp[e1] at q |some z =>
    obtain⟨as,env1⟩:=z;cases e2:rQ as with
    |none=>simp[e1,e2] at q |some d' =>
      have q:↑(d',env1)=↑(ds,env'):=by simpa[io,e1,e2] using q
      cases q;refine⟨W,env,as,_,ok,e1,λW1 vs H1 c S p1=>?_⟩;unfold rQ at e2;split at e2
      ·rename_i i j
       split at e2
       ·rename_i D
        cases e2;obtain⟨v,f,rfl,d,e⟩:=rL p1;cases d;cases e;exact⟨i,j,rfl,⟨D.1.1,D.1.2,D.2.1,D.2.2⟩,k W1 _ H1 c S C9⟩
       ·cases e2
      ·cases e2⟩
def gH:k8->k8 |some (.sh d)=>⇑d |_=>none
def rg(tt:FT)(te:FE)(base:aP):k4->Option k4
 | []=>↑[] |d::r=>(tt (⇑d::base)).bind λb=>if b.1=true then(te b.2).bind λv=>(rg tt te base r).map (v.1::·) else rg tt te base r
def jf(fi:FI)(ix:ic)(tt:FT)(te:FE):FA:=λe=>(fi e).bind λr=>if cI r.1.length then(rg tt te (ix.map λj=>gH (r.2.getD j none)) r.1).map λds=>(ds,r.2) else none
@[simp] def b_:FT:=λe=>↑(true,e)
def gR(K:kf)(f:FT):TT:=λσ H Q=>∃G H0,rH K G H0 f σ H Q
def kZ(K:kf)(f:FE):TE:=λσ H Q=>∃G H0,tD K G H0 f σ H Q
def dA:Addr->Prop:=λ_=>False
variable{cap:k8->k8}
def xH{pre:aP}{σp:St}(ok:Ok X.K G H0 W env σ H)(Z:∀a,H a=none->G' a)(S:pre.length=σp.length)(b:∀(i:Nat) (s:Sl),pre[i]?=↑↑s->∃d u,s=.sh d/\σp[i]?=↑↑u/\bB X.K H (Ow G' dA) d u)(c:∀(U s:Sl) (u:V),cap ↑U=↑s->dU X.K G W H U u->∃d,s=.sh d/\bB X.K H (Ow G' dA) d u)(Y:cap none=none) :
  Ok X.K G' H dA (pre++ix.map λj=>cap (env.getD j none)) (σp++ix.map λj=>σ.getD j none) H:=by
 have D:∀(i:Nat) (s:Sl),(pre++ix.map λj=>cap (env.getD j none))[i]?=↑↑s->∃d u,s=.sh d/\(σp++ix.map λj=>σ.getD j none)[i]?=↑↑u/\bB X.K H (Ow G' dA) d u:=λi s z=>by
  by_cases hi:i<pre.length
  ·rw[ay hi] at z
   rw[ay (S ▸ hi)];exact b i s z
  ·have hi:=i7 hi
   rw[cy hi,cb] at z;rw[cy (S ▸ hi),<-S,cb];obtain⟨j,q,z⟩:=fq.mp z;rw[q,cj] at *;cases q2:env[j]? with
   |none=>rw[q2] at z;exact absurd (Y.symm.trans z) nofun |some o =>
     rw[q2] at z;cases o with
     |none=>exact absurd (Y.symm.trans z) nofun |some U =>
       obtain⟨u,I,r⟩:=ok.slot j _ q2;obtain⟨d,f,r⟩:=c U s u z r;exact⟨d,u,f,by rw[ah,cj,I];rfl,r⟩
 refine⟨bC.refl _,Z,λl z=>z.elim,λi s e=>?_,λi j g s2 v1 v2 a I _ _ _ o _=>by obtain⟨d',_,rfl,_⟩:=D i g I;exact o.elim,by simp[S]⟩;obtain⟨d,u,rfl,I,r⟩:=D i s e;exact⟨u,I,r⟩
def CB(S:∀ {d:D} {v:V},bB X.K H (Ow G W) d v->bB X.K H (Ow G' dA) d v):∀(I s:Sl) (u:V),gH ↑I=↑s->dU X.K G W H I u->∃d,s=.sh d/\bB X.K H (Ow G' dA) d u:=λI s u z r=>by
 cases I <;> cases z;exact⟨_,rfl,S r⟩
def CC(ok:Ok X.K G H0 W env σ H)(r:bB X.K H (Ow G W) d v) :
  Ok X.K (gd λa=>Ow G W a\/H a=none) H dA (⇑d::ix.map λj=>gH (env.getD j none)) (↑v::ix.map λj=>σ.getD j none) H:=by
 have I:∀ {d:D} {v:V},bB X.K H (Ow G W) d v->bB X.K H (Ow (gd λa=>Ow G W a\/H a=none) dA) d v:=λr=>r.mono (λ_ _ h=>h) λa us o h=>⟨⟨.inl o,λz=>z⟩,h⟩;refine xH (pre:=[⇑d]) (σp:=[↑v]) ok (λa z=>.inr z) rfl (λi s z=>?_) (CB I) rfl;cases i with
 |zero=>cases z;exact⟨d,v,rfl,rfl,I r⟩
 |succ i=>cases z
inductive jH (K:kf) (O:Addr->Prop) (H1:Hp) (ds d:k4) (f:k4->Option k4) (i m:Nat) (H':Hp) (ys:kv):Prop
 |mk (rest done:k4) (hm:m=ds.length-i) (hi:i<=ds.length) (sm:bC H1 H') (rp:aL K H' O done ys) (hd:done.length<=i) (ec:f (ds.drop i)=↑rest) (hz:d=done++rest):jH K O H1 ds d f i m H' ys
def rR:2 ^ 20<=sizeLine:=by rw[gz];decide
structure CF (K:kf) (G:Gd) (J:It) (W:Addr->Prop) (H:Hp) (ds:k4):Prop where
 go:∀H' (i:Nat) d,bC H H'->ds[i]?=↑d->J.go i H'/\∀x H'',J.yld i H' x H''->H''=H'/\bB K H' (Ow G W) d x
 stop:∀H',bC H H'->J.stop ds.length H'
protected def Walk.s(D:Walk K G J W H ds):CF K G J W H ds:=⟨λH2 i d sm e=>D.go W H2 i d (Step.same sm) e,λH2 sm=>D.stop W H2 (Step.same sm)⟩
def rS(K:kf)(G:Gd)(H0:Hp)(f:FI):TI:=λσ H R=>DP K G H0 f (λW env ds env' =>
 ∀W' J H',Step W H W' H'->Ok K G H0 W' env' σ H'->CF K G J W' H' ds->R J H') σ H
variable{tt:FT}{te:FE}{fn:k4->Option k4}{env1:aP}
def CG{d rest I:k4}{n:aP}{V:St}(r:cI ds.length)(S:i<ds.length)(k:Ok X.K G' H2 dA n V H2)(e:Ok X.K G H0 W1 env1 σ H2)(sm:bC H1 H2)(l:aL X.K H2 (Ow G W1) I ys)(hd:I.length<=i)(m:d=I++rest)(a:((tt n).bind λb=>if b.1=true then(te b.2).bind λv=>(fn (ds.drop (i+1))).map (v.1::·) else fn (ds.drop (i+1)))=↑rest)(back:∀ {o f c w},bB X.K f (Ow G' o) c w->c∈d->bB X.K f (Ow G W1) c w) :
  gR X.K tt V H2 λb H2=>if b=true then kZ X.K te V H2 λv f=>ys.length<sizeLine/\∃g,g<ds.length-i/\jH X.K (Ow G W1) H1 ds d fn (i+1) g f (ys++[v]) else ∃g,g<ds.length-i/\jH X.K (Ow G W1) H1 ds d fn (i+1) g H2 ys:=by
 obtain⟨⟨b,U⟩,s,a⟩:=db.mp a;refine⟨_,_,dA,_,b,U,k,s,λt H2 s2 Y=>?_⟩;have p:ds.length-(i+1)<ds.length-i:=oz _ _ S;cases b with
 |false=>exact⟨_,p,rest,I,rfl,S,sm.trans Y.stay,e.reps (Step.same Y.stay) l,sx hd,a,m⟩
 |true =>
   obtain⟨⟨c,h⟩,u,a⟩:=db.mp a;obtain⟨Z,x,q⟩:=fq.mp a;refine⟨_,_,t,U,c,h,Y,u,λo v f y j r3=>⟨?_,_,p,Z,I++[c],rfl,S,sm.trans j.stay,(e.reps (Step.same j.stay) l).append (.cons (back r3 (by rw[m,<-q];simp)) .nil),?_,x,?_⟩⟩
   ·rw[<-l.length];exact bn (l7 hd (bn S r)) rR
   ·rw[ax];exact Nat.succ_le_succ hd
   ·rw[m,<-q,ek];rfl
def CH{d rest I:k4}(a:cI ds.length)(S:i<=ds.length)(U:¬i<ds.length)(V:Ok X.K G H0 W1 env1 σ H')(b:Step W H W1 H1)(sm:bC H1 H')(Y:aL X.K H' (Ow G W1) I ys)(hd:I.length<=i)(c:d=I++rest)(Z:fn (ds.drop i)=↑rest)(e:fn []=↑[])(k:∀W' l vs H',Step W H (cE W' l) H'->Ok X.K G H0 W' env1 σ H'->Ok X.K G H0 (cE W' l) env1 σ H'->¬W' l->H' l=↑(.lst vs)->aL X.K H' (Ow G (cE W' l)) d vs->Q (.ref l) H'):ys.length<=sizeLine/\∀D,H' D=none->Q (.ref D) (aX H' D (.lst ys)):=by
 cases lf S (i7 U);rw[ug,e] at Z;cases Z;refine⟨by rw[<-Y.length];exact d7 hd (d7 a rR),λl f=>?_⟩;obtain⟨h1,h2,g,h,j,m⟩:=yr V Y f;rw[c,du] at k;exact k W1 l _ _ ((b.trans (Step.same sm)).trans h1) h2 g h j m
variable{fi:FI}
def CI{b:FA}{pr:D->Prop}(o:∀ {e d e'},b e=↑(d,e')->∃ds,fi e=↑(ds,e')/\cI ds.length/\rg tt te (ix.map λj=>cap (e'.getD j none)) ds=↑d/\∀x∈d,pr x)(hi:∀ {W env σ H d v},Ok X.K G H0 W env σ H->bB X.K H (Ow G W) d v->∃G',Ok X.K G' H dA (⇑d::ix.map λj=>cap (env.getD j none)) (↑v::ix.map λj=>σ.getD j none) H/\∀ {W3 H3 dv w},bB X.K H3 (Ow G' W3) dv w->pr dv->bB X.K H3 (Ow G W) dv w) :
  ∀σ H Q,hC X.K G H0 b σ H Q->xp (rS X.K G H0 fi) ix (gR X.K tt) (kZ X.K te) σ H Q:=λσ H Q z=>by
 obtain⟨W,env,d,env1,ok,q,k⟩:=z;obtain⟨ds,p,c,s,t⟩:=o q;refine⟨W,env,ds,_,ok,p,λW1 J H1 u V f=>⟨jH X.K (Ow G W1) H1 ds d (rg tt te (ix.map λj=>cap (env1.getD j none))),⟨ds.length,d,[],rfl,ie _,bC.refl _,.nil,cw _,s,rfl⟩,λi m H' ys z=>?_⟩⟩;obtain⟨rest,g,A,U,sm,l,hd,Y,n⟩:=z;subst A;have S:=V.same sm;by_cases I:i<ds.length
 ·rw[il I] at Y
  obtain⟨B,C⟩:=f.go H' i ds[i] sm (bc I);refine .inr ⟨B,λx Z y=>?_⟩;obtain⟨e,E⟩:=C x Z y;subst e;obtain⟨G',a,back⟩:=hi S E;exact CG c I a S sm l hd n Y λr h=>back r (t _ h)
 ·exact .inl ⟨by cases lf U (i7 I);exact f.stop H' sm,CH c U I S u sm l hd n Y rfl k⟩
def xI:∀σ H Q,hC X.K G H0 (jf fi ix tt te) σ H Q->xp (rS X.K G H0 fi) ix (gR X.K tt) (kZ X.K te) σ H Q :=
 CI (cap:=gH) (pr:=λ_=>True) (λq=>by
  obtain⟨⟨ds,env1⟩,S,q⟩:=db.mp q;by_cases D:cI ds.length;case neg=>cases (bw D).symm.trans q
  obtain⟨I,U,q⟩:=fq.mp ((am D).symm.trans q);cases q;exact⟨ds,S,D,U,λ_ _=>trivial⟩) λok r=>⟨_,CC ok r,λr3 _=>r3.mono (λ_ _ h=>h) λa us o h=>⟨o.1.elim (λz=>z) λz=>⟨ok.good a (ok.stay.free z),λw=>by obtain⟨_,us,q⟩:=ok.wl a w;rw[z] at q;cases q⟩,h⟩⟩
def rT:∀σ H Q,hC X.K G H0 (jf fi ix tt te) σ H Q->xp (xF X.K G H0 fi) ix (gR X.K tt) (kZ X.K te) σ H Q:=λσ H Q z=>by
 obtain⟨W,env,ds,env',ok,e,k⟩:=xI σ H Q z;exact⟨W,env,ds,env',ok,e,λW' J H' s o w=>k W' J H' s o w.s⟩
variable{X':Cx}
def z9(S:X'.K=X.K):gP X' [] (gR X.K b_):=λpins s σ H Q I D=>by
 obtain⟨G,H0,W,env,b,env',ok,e,k⟩:=D;cases e;exact Ic pins s σ H Q I (k W H Step.refl ok)
def k_(D:X'.K=X.K)(h:∀G H0,gD X' G H0 c tt):gP X' [c] (gR X.K tt):=λpins s σ H Q I ⟨G,H0,q⟩=>Ie (h G H0).out pins s σ H Q I (by rw[D];exact q)
def fZ(D:X'.K=X.K)(h:∀G H0,aS X' G H0 e te):PE X' e (kZ X.K te):=λpins s σ H Q I ⟨G,H0,q⟩=>(h G H0).out pins s σ H Q I (by rw[D];exact q)
def uq(an:bR Nn Cn X)(hi:iX X G H0 (.Name x px) a fi)(I:∀cl C s₂ H₂ fp G H0,bR (x::(aT Nn ix)) (aT Nn ix) (kq X x (aT Nn ix) sc cl C s₂ H₂ fp)->aS (kq X x (aT Nn ix) sc cl C s₂ H₂ fp) G H0 e te)(D:t9 Nn Cn ix x sc=true:=by decide +kernel)(S:‹X.calm=true›)(U:∀v,foldedSetIterable a X.env v=pure v:=by intro _;rfl) :
  fW X G H0 (.ListComp e [⟨.Name x px,a,[],0⟩] sc pos) (jf fi ix b_ te) :=
 ⟨(wW (xv an D) (λ_ _ _ _ _ _ _ _ _=>S) hi.out (λcl C s₂ H₂ fp _=>z9 (X:=X) rfl) (λcl C s₂ H₂ fp _=>fZ (X:=X) rfl (λG H0=>I cl C s₂ H₂ fp G H0 (uw D))) U).imp rT⟩
def CJ{cd:Expr}(an:bR Nn Cn X)(hi:iX X G H0 (.Name x px) a fi)(I:∀cl C s₂ H₂ fp G H0,bR (x::(aT Nn ix)) (aT Nn ix) (kq X x (aT Nn ix) sc cl C s₂ H₂ fp)->gD (kq X x (aT Nn ix) sc cl C s₂ H₂ fp) G H0 cd tt)(S:∀cl C s₂ H₂ fp G H0,bR (x::(aT Nn ix)) (aT Nn ix) (kq X x (aT Nn ix) sc cl C s₂ H₂ fp)->aS (kq X x (aT Nn ix) sc cl C s₂ H₂ fp) G H0 e te)(D:t9 Nn Cn ix x sc=true:=by decide +kernel)(U:‹X.calm=true›)(V:∀v,foldedSetIterable a X.env v=pure v:=by intro _;rfl) :
  fW X G H0 (.ListComp e [⟨.Name x px,a,[cd],0⟩] sc pos) (jf fi ix tt te) :=
 ⟨(wW (xv an D) (λ_ _ _ _ _ _ _ _ _=>U) hi.out (λcl C s₂ H₂ fp _=>k_ (X:=X) rfl (λG H0=>I cl C s₂ H₂ fp G H0 (uw D))) (λcl C s₂ H₂ fp _=>fZ (X:=X) rfl (λG H0=>S cl C s₂ H₂ fp G H0 (uw D))) V).imp rT⟩
def f_(h h':Heap):Prop:=∀b o,h.get? b=↑o->∃o',h'.get? b=↑o'
def f_.trans{a b c:Heap}(x:f_ a b)(y:f_ b c):f_ a c:=λp o q=>let ⟨o',e⟩:=x p o q;y p o' e
def xJ{a:Addr}{f:Obj->Obj}(D:∀o,h.get? a=↑o->(h.update a f).get? a=↑(f o)):f_ h (h.update a f):=λb o q=>by
 by_cases e:a=b
 ·subst e;exact⟨_,D o q⟩
 ·exact⟨o,(df _ _ e).trans q⟩
structure kB (B:Heap) (l:i0) (e:Addr) (cls fl:Value) (h:Heap):Prop where
 stay:B.StaysIn h
 new:B.get? e=none
 fr:h.FunFrames B l
 tr:∃oe vs T oT ts,h.get? e=↑oe/\oe.cls=cls/\oe.dict=none/\oe.data=.fields vs/\vs[1]?=↑(.ref T)/\vs[2]?=some .none/\B.get? T=none/\T≠e/\h.get? T=↑oT/\oT.data=.fields ts/\ts[3]?=↑fl
def IX(o:Obj)(f:kn->kn):(o.mapFields f).dict=o.dict:=by obtain⟨c,d,D,sl⟩:=o;cases D <;> rfl
section
variable {M:Model} {A:Around} {E:Value->Shared->Prop} {s:Shared} {B:Heap} {env:Env} {outer l:i0} {L e:Addr} {cls fl:Value} {Q:Unit->Shared->Prop}
def CK{D:Obj}{vs:kn}{hd:Value}{nx:Bool}(p:A.frames=↑(env::outer))(f2:s.heap.FunFrames B (env::outer))(r:env.frame=↑L)(Y:s.heap.get? e=↑D)(gd:D.dict=none)(I:D.data=.fields vs)(i:1<vs.size)(t:vs[2]?=some .none)(k1:B.StaysIn s.heap)(k2:B.get? e=none)(h:∀h',kB B (env::outer) e D.cls (rawInt L) h'->s.heap.UpToSlots h'->f_ s.heap h'->Q () { s with heap:=h' }) :
  wpAny M A (do let a <-frameOf env;let pl <-entryPlaceOf L nx;let b <-EntryCells.newEntry hd a .none (rawInt L) .none pl;setField (.ref e) 1 b) Q E s:=by
 have Z:e∉(env::outer).filterMap (·.frame):=λz=>by
  obtain⟨_,o,j,u⟩:=f2.mem z;rw[Y] at j;cases j;exact u vs I
 refine au (wpAny_frameOf_fun p f2 r λh1 S=>?_);refine au (wpAny_entryPlaceOf λpl U=>?_);refine au (kt ?_ (U.sizeOk5 _ _ _ _ _));have k:h1.get? e=↑D:=(S.2.1 e Z).trans Y;have l:B.StaysIn h1:=λb o q=>(S.2.1 b λz=>by rw[(f2.mem z).1] at q;cases q).trans (k1 b o q);generalize V:({ cls:=.type "traceback",dict:=none,data:=.fields ([hd,.ref L,.none,rawInt L,.none]++(if pl.isEmpty then List.replicate 6 Value.none else pl)).toArray }:Obj)=ob;have c:∃ts,ob.data=.fields ts/\ts[3]?=↑(rawInt L):=by subst V;exact⟨_,rfl,by first | (simp;done) | (rcases U with rfl | ⟨_,_,_,_,_,_,_,rfl⟩ <;> simp)⟩
 have d:ob.isFreed=false:=by subst V;rfl
 have f:=aq (h:=h1) ob k;have m:h1.objs.size≠e:=j7 (bj k);have g:=Obj.data_mapFields I (·.setIfInBounds 1 (Value.ref h1.objs.size));refine wpAny_setField f I i (h _ ?_ ?_ ?_)
 ·refine⟨λb o q=>?_,k2,f2.of_keeps λb o q n=>?_,?_⟩
  ·rw[df _ _ (λz:e=b=>by rw[<-z,k2] at q;cases q)]
   exact aq _ (l b o q)
  ·obtain⟨sl,z⟩:=S.2.2 b o q
   refine⟨{ o with slots:=sl },?_,rfl⟩;rw[df _ _ (λy:e=b=>by rw[<-y,Y] at q;cases q;exact n vs I)];exact aq _ z
  ·obtain⟨ts,v,w⟩:=c
   refine⟨_,_,h1.objs.size,ob,ts,gv _ f (Obj.isFreed_of_fields g),Obj.cls_mapFields _ _,(IX _ _).trans gd,g,by simp[i],by rw[Array.getElem?_setIfInBounds_ne (by decide)];exact t,l.fresh,m,?_,v,w⟩;rw[df _ _ (Ne.symm m)];exact cx h1 d
 ·intro b o q n
  obtain⟨sl,z⟩:=S.2.2 b o q;refine⟨sl,?_⟩;rw[df _ _ (λy:e=b=>by rw[<-y,Y] at q;cases q;exact n vs I)];exact aq _ z
 ·intro b o q
  obtain⟨sl,z⟩:=S.2.2 b o q;exact xJ (λo q=>gv _ q (by rw[f] at q;cases q;exact Obj.isFreed_of_fields g)) b _ (aq _ z)
def xM(x:kB B l e cls fl s.heap)(h:∀h',kB B l e cls .none h'->s.heap.UpToSlots h'->f_ s.heap h'->Q () { s with heap:=h' }):wpAny M A (setFlight (.ref e) none) Q E s:=by
 obtain⟨i,vs,T,j,ts,U,c,gd,V,Y,d,Z,a,D,I,g⟩:=x.tr;have sz:3<ts.size:=(l9.mp g).1;unfold setFlight;refine au (kj U V Y ?_);have S:=Obj.data_mapFields I (·.setIfInBounds 3 ((none:Option Addr).elim Value.none λf=>rawInt f));refine wpAny_setField D I sz (h _ ⟨λb o q=>?_,x.new,x.fr.of_keeps λb o q n=>⟨o,?_,rfl⟩,_,vs,T,_,_,(df _ _ a).trans U,c,gd,V,Y,d,Z,a,gv _ D (Obj.isFreed_of_fields S),S,by simp[sz]⟩ (λb o q n=>⟨o.slots,?_⟩) (xJ λo q=>gv _ q (by rw[D] at q;cases q;exact Obj.isFreed_of_fields S)))
 ·exact(df _ _ λz=>by rw[<-z,Z] at q;cases q).trans (x.stay b o q)
 ·exact(df _ _ λz=>by rw[<-z,D] at q;cases q;exact n ts I).trans q
 ·exact(df _ _ λz=>by rw[<-z,D] at q;cases q;exact n ts I).trans q
def IY(c:A.frames=↑(env::outer))(S:env.frame=↑L)(x:kB B (env::outer) e cls .none s.heap)(h:∀h',kB B (env::outer) e cls (rawInt L) h'->s.heap.UpToSlots h'->f_ s.heap h'->Q () { s with heap:=h' }):wpAny M A (noteFrame (.ref e) env) Q E s:=by
 obtain⟨j,vs,T,k,ts,U,d,gd,V,Y,f,g,i,D,I,Z⟩:=x.tr;subst d;unfold noteFrame;simp only[S];refine au (kj U V Y ?_);refine au (kj D I Z ?_);refine au (wpAny_setField D I (l9.mp Z).1 ?_);have a:∀b o,s.heap.get? b=↑o->(∀vs,o.data≠.fields vs)->(s.heap.update T (Obj.mapFields (·.setIfInBounds 3 Value.none))).get? b=↑o:=λb o q n =>
  (df _ _ λz=>by rw[<-z,D] at q;cases q;exact n ts I).trans q
 refine CK c (x.fr.of_keeps λb o q n=>⟨o,a b o q n,rfl⟩) S ((df _ _ i).trans U) gd V (l9.mp Y).1 f (λb o q=>(df _ _ λz=>by rw[<-z,g] at q;cases q).trans (x.stay b o q)) x.new λh' y u w=>h h' y (λb o q n=>u b o (a b o q n) n) (f_.trans (xJ λo q=>gv _ q (by rw[D] at q;cases q;exact Obj.isFreed_of_fields (Obj.data_mapFields I _))) w)
def IZ(D:A.frames=↑(env::outer))(I:env.frame=↑L)(x:kB B (env::outer) e cls .none s.heap)(h:∀h',kB B (env::outer) e cls .none h'->s.heap.UpToSlots h'->f_ s.heap h'->Q () { s with heap:=h' }):wpAny M A (noteFrame (.ref e) env) (λ_ S=>wpAny M A (setFlight (.ref e) none) Q E S) E s :=
 IY D I x λh1 U V Y=>xM U λh2 x2 Z a=>h h2 x2 (V.trans Z) (Y.trans a)
def I_{D:Heap}{args:h7}(U:A.frames=↑(env::outer))(f2:D.FunFrames B (env::outer))(I:env.frame=↑L)(k1:B.StaysIn D)(m:Heap.MadeExcOf D s.heap e cls args)(h:∀h',kB B (env::outer) e cls .none h'->s.heap.UpToSlots h'->f_ s.heap h'->Q () { s with heap:=h' }):wpAny M A (noteFrame (.ref e) env) (λ_ V=>wpAny M A (setFlight (.ref e) none) Q E V) E s:=by
 obtain⟨t,S,_,_⟩:=m.there;have k2:B.get? e=none:=by
  cases q:B.get? e with
  |none=>rfl |some o=>have:=k1 e o q;rw[m.new] at this;cases this
 unfold noteFrame;simp only[I];refine au (kj S rfl (x:=Value.none) rfl ?_);exact CK U (f2.of_keeps λb o q _=>⟨o,m.keeps b o q,rfl⟩) I S rfl rfl ⋯ rfl (λb o q=>m.keeps b o (k1 b o q)) k2 λh1 Y Z a=>xM Y λh2 x2 c d=>h h2 x2 (Z.trans c) (a.trans d)
end
end L2
namespace L2
open PySem PySem.Spec PyProof.Rows PySem.W
def Cl(K:kf)(c:Str)(C:Addr):Prop:=PySem.W.nsIn K mainGlobals c=↑↑(.ref C)
def iM(P:Program)(w:World)(l:i0)(H:Hp)(s:Shared)(C e:Addr)(H':Hp)(s':Shared):Prop :=
 ∃B,kB B l e (.ref C) .none s'.heap/\(∀b o,s.heap.get? b=↑o->H b=none->b∉fA l->B.get? b=↑o)/\eY P w H' B/\Un (fA l) [] H H' s.heap s'.heap/\s'.os=s.os/\AllBare s'.gens
abbrev dG(P:Program)(w:World):hY:=λl H s E e s'=>∃ea C H',e=.ref ea/\iM P w l H s C ea H' s'/\E (.ref C) none H'
def XS(X:Cx)(pins:kl)(σ:St)(H:Hp)(C e:Addr)(s':Shared):Prop :=
 (∃s H1,Inv X pins σ H1 s/\iM X.prog X.w X.stack H1 s C e H s')\/∃s args,Inv X pins σ H s/\Heap.MadeExcOf s.heap s'.heap e (.ref C) args/\s'={ s with heap:=s'.heap }
variable{CX:hY}{P:Program}{w:World}{K:kf}{mg:Str->h8}{base:Heap}{x qual:Str}{st:Stmt}{f:Addr}{fd:FuncData}{N ps:h6}{k:Nat}{sp:Sp}
theorem hB.okX(F:hB K x qual st f fd)(S:ut N ps (ip st))(len:∀vs H Q E,sp vs H Q E->vs.length=ps.length)(D:∀(cdv:Value) (A:Around) (outer:i0) (s:Shared) (H:Hp) (vs:kv) (Q:VK) (E:XK),bA k (A.deeper (envOfC qual (ip st) s.heap.objs.size f cdv))->sp vs H Q E ->
   ∃t,gZ (cG CX P w K mg base N qual (ip st) f cdv A outer s H E) (ny st) t/\t { nx:=λ_ H'=>Q .non H',rt:=Q } (start N vs) H):cJ P w K mg base CX (k+1) f fd ps sp:=by
 obtain⟨oc,od,kV,Y,b,an,cdv,ct,osl,rfl,Z,I⟩:=F.ex;exact Hv Z I S len λA outer s H vs Q E a U=>D cdv A outer s H vs Q E a U
theorem hB.okC(F:hB K x qual st f fd)(S:ut N ps (ip st))(len:∀vs H Q E,sp vs H Q E->vs.length=ps.length)(D:∀(cdv:Value) (A:Around) (outer:i0) (s:Shared) (H:Hp) (vs:kv) (Q:VK) (E:XK),bA k (A.deeper (envOfC qual (ip st) s.heap.objs.size f cdv))->sp vs H Q E ->
   ∃t,gZ (cG CX P w K mg base N qual (ip st) f cdv A outer s H E).nox (ny st) t/\t { nx:=λ_ H'=>Q .non H',rt:=Q } (start N vs) H):cJ P w K mg base CX (k+1) f fd ps sp :=
 F.okX S len λcdv A outer s H vs Q E I h=>let ⟨t,p,q⟩:=D cdv A outer s H vs Q E I h;⟨t,p.nox,q⟩
variable{X:Cx}{pins:kl}{σ:St}{H H':Hp}{s s':Shared}{C e:Addr}
def iM.inv(I:Inv X pins σ H s)(f:iM X.prog X.w X.stack H s C e H' s'):Inv X pins σ H' s':=by
 obtain⟨B,x,_,D,un,os,S⟩:=f;exact I.call' (ch:=[]) os un (D.kept x.stay) S λb z=>absurd z ⋯
def XS.come{E:Value->Shared->Prop}{Q:Unit->Shared->Prop}(h:XS X pins σ H' C e s')(U:X.stack=X.env::X.outer)(k:X.env.frame=↑X.env.locals)(l:∀h2 D H1,Inv X pins σ H1 D->iM X.prog X.w X.stack H1 D C e H' { s' with heap:=h2 }->Q () { s' with heap:=h2 }):wpAny (model X.prog X.w) X.A (noteFrame (.ref e) X.env) (λ_ D=>wpAny (model X.prog X.w) X.A (setFlight (.ref e) none) Q E D) E s':=by
 rcases h with⟨D,H1,I,f⟩ | ⟨D,args,I,m,es⟩
 ·obtain⟨B,x,p,r,un,os,s⟩:=f
  have st:=I.stack;rw[U] at x st;refine IZ (I.ok.frames.trans (by rw[U])) k x λh2 x2 Z V=>l h2 D H1 I ⟨B,U ▸ x2,p,r,⟨λb o q n S _=>x2.stay b o (p b o q n S),λb o q n S d=>?_,un.free,λb o q d=>?_,un.tups,un.frzs,un.tbls⟩,os,s⟩
  ·obtain⟨sl,z⟩:=un.slot b o q n S d
   rw[U] at S;obtain⟨_,t,y,g⟩:=st.mem S;rw[q] at y;cases y;obtain⟨i,v⟩:=Z b _ z g;exact⟨i,v⟩
  ·obtain⟨o',z⟩:=un.there b o q d
   exact V b o' z
 ·have st:=I.stack
  have F:∀b∈fA X.stack,H' b=none:=I.stkFree;have Y:∀b o,H' b=↑o->b∉fA X.stack:=λb o q z=>by rw[F b z] at q;cases q
  have j:eY X.prog X.w H' (hideAll D.heap (fA X.stack)):=λb o q =>
   (I.hok b o q).stay (λc u hc z=>hideAll_get _ z (by rcases hc with rfl |hc;exact Y _ _ q;exact Y _ _ hc)) (λ_ z=>z) λ_ _ z=>z
  have f2:D.heap.FunFrames (hideAll D.heap (fA X.stack)) (X.env::X.outer):=U ▸ funFrames_hide (as:=fA X.stack) st λenv V a G=>qo.mpr ⟨env,V,G⟩;refine I_ (B:=hideAll D.heap (fA X.stack)) (I.ok.frames.trans (by rw[U])) f2 k (λb o q=>of_hideAll _ q) m λh2 x2 Z V=>l h2 D H' I ⟨_,U ▸ x2,λb o q n S=>hideAll_get _ q S,j,⟨λb o q n S _=>x2.stay b o (hideAll_get _ q S),λb o q n S _=>?_,λ_ _ _ n _=>n,λb o q _=>V b o (m.keeps b o q),λ_ _ z=>z,λ_ _ _ z=>z,λ_ ps z=>⟨#[],by rw[Array.append_empty];exact z⟩⟩,by rw[es],by rw[es];exact I.bare⟩;obtain⟨_,t,y,g⟩:=st.mem S;rw[q] at y;cases y;exact Z b o (m.keeps b o q) g
def xN{scope:Scope}{cd:Value}{A:Around}{outer:i0}{s₀:Shared}{H₀:Hp}{E:XK}(h:XS (cG (dG P w) P w K mg base N qual scope f cd A outer s₀ H₀ E) pins σ H' C e s')(S:E (.ref C) none H'):(cG (dG P w) P w K mg base N qual scope f cd A outer s₀ H₀ E).xe (.ref e) s':=by
 refine au (h.come rfl rfl λh2 Y H1 I f=>⟨e,C,H',rfl,?_,S⟩);have J:=f.inv I;obtain⟨B,x,U,V,_⟩:=f;refine⟨B,⟨x.stay,x.new,x.fr.2.2,x.tr⟩,λb o q n D=>?_,V,J.base,J.os,J.bare⟩;refine U b o (I.base.keep b o q n D (by simp[cG])) (I.base.free b o q n (by simp[cG])) λz=>?_;rcases b6.mp (show b∈s₀.heap.objs.size::fA outer from z) with z |z
 ·rw[z] at q;exact absurd (bj q) (gm _)
 ·exact D z
end L2
namespace L2
open PySem PySem.Spec PyProof.Rows
inductive Fl where
 |nx |bk |ct |rt (d:D) |rf (ds:k4) |r2 (dss:List k4) |xc (c:Str) |ra (k:AK) (ps:k7)
abbrev FS:=aP->Option (Fl×aP)
structure N2 (K:kf) (G:Gd) (H0 H:Hp) (l:Addr) (ls:ia) (dss:List k4):Prop where
 nd:(l::ls).Nodup
 new:∀a∈l::ls,H0 a=none
 bZ:H l=↑(.lst (ls.map V.ref))
 len:ls.length=dss.length
 inn:∀(j:Nat) (ds:k4) (a:Addr),dss[j]?=↑ds->ls[j]?=↑a->∃vs,H a=↑(.lst vs)/\aL K H (λb=>G b/\b∉l::ls) ds vs
def eX(X:Cx)(G:Gd)(H0:Hp)(W:Addr->Prop)(H:Hp)(Dn:g_)(env':aP):Fl->Prop
 | .nx=>∀W' D H',Step W H W' H'->Ok X.K G H0 W' env' D H'->Dn.nx D H' | .bk=>∀W' D H',Step W H W' H'->Ok X.K G H0 W' env' D H'->Dn.bk D H' | .ct=>∀W' D H',Step W H W' H'->Ok X.K G H0 W' env' D H'->Dn.ct D H' | .rt d=>∀W' D v H',Step W H W' H'->Ok X.K G H0 W' env' D H'->bB X.K H' (Ow G W') d v->Dn.rt v H' | .rf ds=>∀l vs H',bC H0 H'->H0 l=none->H' l=↑(.lst vs)->aL X.K H' (λa=>G a/\a≠l) ds vs->Dn.rt (.ref l) H'
 | .r2 dss=>∀l ls H',bC H0 H'->N2 X.K G H0 H' l ls dss->Dn.rt (.ref l) H'
 | .xc c=>∀W' D H' C,Cl X.K c C->Step W H W' H'->Ok X.K G H0 W' env' D H'->∀pins e s',XS X pins D H' C e s'->X.xe (.ref e) s' | .ra k ps=>∀W' D p H',Step W H W' H'->Ok X.K G H0 W' env' D H'->dU X.K G W' H' (.ag k none ps) (.ref p)->Dn.rt (.ref p) H'
def rV(X:Cx)(G:Gd)(H0:Hp)(g:FS):TS:=λDn σ H=>DP X.K G H0 g (λW env fl env'=> eX X G H0 W H Dn env' fl) σ H
structure eR (X:Cx) (G:Gd) (H0:Hp) (s:Stmt) (g:FS):Prop where
 out:PS X s (rV X G H0 g)
structure gA (X:Cx) (G:Gd) (H0:Hp) (s:List Stmt) (g:FS):Prop where
 out:gZ X s (rV X G H0 g)
variable{X:Cx}{e:Expr}{t t':TS}
def PS.imp{e:Stmt}(h:PS X e t)(i:∀D σ H,t' D σ H->t D σ H):PS X e t':=λpins s σ H D I q=>h pins s σ H D I (i D σ H q)
def gZ.imp{e:List Stmt}(h:gZ X e t)(i:∀D σ H,t' D σ H->t D σ H):gZ X e t':=λpins s σ H D I q=>h pins s σ H D I (i D σ H q)
variable{G:Gd}{W W1:Addr->Prop}{H0 H H1:Hp}{Dn:g_}{env':aP}{fl:Fl}
protected def eX.step(st:Step W H W1 H1)(h:eX X G H0 W H Dn env' fl):eX X G H0 W1 H1 Dn env' fl:=by
 cases fl with
 |nx=>exact λW' D H' s o=>h W' D H' (st.trans s) o |bk=>exact λW' D H' s o=>h W' D H' (st.trans s) o |ct=>exact λW' D H' s o=>h W' D H' (st.trans s) o |rt d=>exact λW' D v H' s o=>h W' D v H' (st.trans s) o |rf ds=>exact h |r2 dss=>exact h |xc c=>exact λW' D H' C z s o=>h W' D H' C z (st.trans s) o |ra k ps=>exact λW' D p H' s o=>h W' D p H' (st.trans s) o
def Fl.out:Fl->Bool | .rt _=>true | .rf _=>true | .r2 _=>true | .xc _=>true | .ra _ _=>true |_=>false
variable{Dn':g_}
protected def eX.go(I:fl.out=true)(h:eX X G H0 W H Dn env' fl)(e:Dn'.rt=Dn.rt)(st:Step W H W1 H1):eX X G H0 W1 H1 Dn' env' fl:=by
 cases fl with
 |nx=>cases I
 |bk=>cases I
 |ct=>cases I
 |rt d=>intro W' D v H' s o r;rw[e];exact h W' D v H' (st.trans s) o r
 |rf ds=>intro v vs H' s n l r;rw[e];exact h v vs H' s n l r
 |r2 dss=>intro v ls H' s n;rw[e];exact h v ls H' s n
 |xc c=>exact λW' D H' C z s o=>h W' D H' C z (st.trans s) o |ra k ps=>intro W' D p H' s o r;rw[e];exact h W' D p H' (st.trans s) o r
@[simp] def aM:FS:=λe=>↑(.nx,e)
@[simp] def aE(g h:FS):FS:=λe=>(g e).bind λr=>match r.1 with | .nx=>h r.2 |_=>↑r
@[simp] def aH(i:Nat)(f:FE):FS:=λe=>(f e).map λr=>(.nx,r.2.set i ⇑r.1)
@[simp] def cQ(i:Nat)(f:FA):FS:=λe=>(f e).map λr=>(.nx,r.2.set i ↑(.ow r.1))
@[simp] def aK(f:FE):FS:=λe=>(f e).map λr=>(.rt r.1,r.2)
@[simp] def xO(f:FA):FS:=λe=>(f e).map λr=>(.rf r.1,r.2)
@[simp] def aV(c:FT)(g h:FS):FS:=λe=>(c e).bind λr=>if r.1=true then g r.2 else h r.2
@[simp] def je(f:FE):FS:=λe=>(f e).map λr=>(.nx,r.2)
@[simp] def rW:FS:=λ_=>none
def cF(i:Nat)(g:FS):k4->aP->Option (Fl×aP)
 | [],e=>↑(.nx,e) |d::r,e=>(g (e.set i ⇑d)).bind λq=>match q.1 with | .nx=>cF i g r q.2 | .ct=>cF i g r q.2 | .bk=>↑(.nx,q.2) | .rt d=>↑(.rt d,q.2) | .rf ds=>↑(.rf ds,q.2) | .r2 ds=>↑(.r2 ds,q.2) | .xc c=>↑(.xc c,q.2) | .ra k ps=>↑(.ra k ps,q.2)
@[simp] def bY(i:Nat)(fi:FI)(g:FS):FS:=λe=>(fi e).bind λr=>cF i g r.1 r.2
def pq(c:FT)(g:FS):Nat->aP->Option (Fl×aP)
 |0,_=>none |n+1,e=>(c e).bind λr=>if r.1=true then(g r.2).bind λq=>match q.1 with | .nx=>pq c g n q.2 | .ct=>pq c g n q.2 | .bk=>↑(.nx,q.2) | .rt d=>↑(.rt d,q.2) | .rf ds=>↑(.rf ds,q.2) | .r2 ds=>↑(.r2 ds,q.2) | .xc c=>↑(.xc c,q.2) | .ra k ps=>↑(.ra k ps,q.2) else ↑(.nx,r.2)
def im  : gA X G H0 [] aM:=⟨G2.imp λDn σ H D=>by
 obtain⟨W,env,fl,env',ok,q,k⟩:=D;cases q;exact k W σ H Step.refl ok⟩
variable{s:Stmt}{ss:List Stmt}{u v:FS}
def dh(h1:eR X G H0 s u)(h2:gA X G H0 ss v):gA X G H0 (s::ss) (aE u v):=⟨(G3 h1.out h2.out).imp λDn σ H S=>by
 obtain⟨W,env,fl,env',ok,q,k⟩:=S;cases e1:u env with
 |none=>simp[e1] at q |some r =>
   obtain⟨D,env1⟩:=r;refine⟨W,env,D,env1,ok,e1,?_⟩;cases D with
   |nx =>
     have q:v env1=↑(fl,env'):=by simpa[aE,e1] using q
     exact λW1 U H1 V I=>⟨W1,env1,fl,env',I,q,k.step V⟩
   |bk =>
     have q:↑(Fl.bk,env1)=↑(fl,env'):=by simpa[aE,e1] using q
     cases q;exact k
   |ct =>
     have q:↑(Fl.ct,env1)=↑(fl,env'):=by simpa[aE,e1] using q
     cases q;exact k
   |rt d =>
     have q:↑(Fl.rt d,env1)=↑(fl,env'):=by simpa[aE,e1] using q
     cases q;exact k
   |rf d =>
     have q:↑(Fl.rf d,env1)=↑(fl,env'):=by simpa[aE,e1] using q
     cases q;exact k
   |r2 d =>
     have q:↑(Fl.r2 d,env1)=↑(fl,env'):=by simpa[aE,e1] using q
     cases q;exact k
   |xc d =>
     have q:↑(Fl.xc d,env1)=↑(fl,env'):=by simpa[aE,e1] using q
     cases q;exact k
   |ra d d' =>
     have q:↑(Fl.ra d d',env1)=↑(fl,env'):=by simpa[aE,e1] using q
     cases q;exact k⟩
def dz(h:eR X G H0 s u):gA X G H0 [s] u:=⟨G4 h.out⟩
variable{f:FE}{pos p':Pos}{x:Str}{i:Nat}
def Ja(U:X.N.Nodup)(hi:‹X.N[i]?=↑x›)(V:aS X G H0 e f)(ps:PS X (.Assign [.Name x p'] e pos) (fB (tD X.K G H0 f) (n9 i))):eR X G H0 (.Assign [.Name x p'] e pos) (aH i f):=⟨ps.imp λDn σ H I=>by
 obtain⟨W,env,fl,env',ok,q,k⟩:=I;cases e1:f env with
 |none=>simp[e1] at q |some r =>
   have q:↑(Fl.nx,r.2.set i ↑(Sl.sh r.1))=↑(fl,env'):=by simpa[aH,e1] using q
   cases q;exact⟨W,env,_,_,ok,e1,λW1 v1 H1 S D p1=>k W1 _ H1 S (D.set p1)⟩⟩
variable{F:FA}
def oa(ps:PS X (.Assign [.Name x p'] e pos) (fB (hC X.K G H0 F) (n9 i))):eR X G H0 (.Assign [.Name x p'] e pos) (cQ i F):=⟨ps.imp λDn σ H S=>by
 obtain⟨W,env,fl,env',ok,q,k⟩:=S;cases e1:F env with
 |none=>simp[e1] at q |some r =>
   have q:↑(Fl.nx,r.2.set i ↑(Sl.ow r.1))=↑(fl,env'):=by simpa[cQ,e1] using q
   cases q;exact⟨W,env,_,_,ok,e1,λW1 l vs H1 U D I V Y Z=>k (cE W1 l) _ H1 U (I.setO (.inr rfl) Y Z (D.noOwn V))⟩⟩
def fz(I:aS X G H0 e f):eR X G H0 (.Return ↑e pos) (aK f):=⟨(nG I.out).imp λDn σ H S=>by
 obtain⟨W,env,fl,env',ok,q,k⟩:=S;cases e1:f env with
 |none=>simp[e1] at q |some r =>
   have q:↑(Fl.rt r.1,r.2)=↑(fl,env'):=by simpa[aK,e1] using q
   cases q;exact⟨W,env,_,_,ok,e1,λW1 v1 H1 U D p1=>k W1 σ v1 H1 U D p1⟩⟩
def Jb(S:fW X G H0 e F):eR X G H0 (.Return ↑e pos) (xO F):=⟨(nG S.out).imp λDn σ H U=>by
 obtain⟨W,env,fl,env',ok,q,k⟩:=U;cases e1:F env with
 |none=>simp[e1] at q |some r =>
   have q:↑(Fl.rf r.1,r.2)=↑(fl,env'):=by simpa[xO,e1] using q
   cases q;exact⟨W,env,_,_,ok,e1,λW1 l vs H1 Z D I b V Y=>k l vs H1 D.stay (I.wl l (.inr rfl)).1 V (Y.mono (λ_ _ h=>h) λa us o h=>⟨⟨o.1,λz=>o.2 (.inr z)⟩,h⟩)⟩⟩
@[simp] def oE(i:Nat):FS:=λe=>match e[i]? with |some ↑(.ow ds)=>↑(.rf ds,e) |_=>none
variable{Nn Cn:h6}
def CL(an:bR Nn Cn X)(D:‹Nn[i]?=↑x›):eR X G H0 (.Return ↑(.Name x p') pos) (oE i):=⟨(nG ((an.a D).pe)).imp λDn σ H S=>by
 obtain⟨W,env,fl,env',ok,q,k⟩:=S;unfold oE at q;split at q
 ·rename_i ds U
  cases q;obtain⟨v,V,l,vs,rfl,I,Y,r⟩:=ok.slot i _ U;exact⟨_,V,k l vs H ok.stay (ok.wl l I).1 Y (r.mono (λ_ _ h=>h) λa us o h=>⟨⟨o.1,λz=>o.2 (z ▸ I)⟩,h⟩)⟩
 ·cases q⟩
variable{c:Expr}{p:FT}
def ii{I S:List Stmt}(V:gD X G H0 c p)(Y:gA X G H0 I u)(Z:gA X G H0 S v):eR X G H0 (.If c I S pos) (aV p u v):=⟨(G6 V.out Y.out Z.out).imp λDn σ H a=>by
 obtain⟨W,env,fl,env',ok,q,k⟩:=a;cases e1:p env with
 |none=>simp[e1] at q |some r =>
   obtain⟨t,env1⟩:=r;refine⟨W,env,t,env1,ok,e1,λW1 H1 U D=>?_⟩;cases t with
   |true=>rw[am rfl];exact⟨W1,env1,fl,env',D,by simpa[aV,e1] using q,k.step U⟩ |false=>rw[bw de];exact⟨W1,env1,fl,env',D,by simpa[aV,e1] using q,k.step U⟩⟩
def xP  : eR X G H0 s rW:=⟨G8.imp λDn σ H ⟨W,env,fl,env',ok,q,k⟩=>by cases q⟩
def j4(I:aS X G H0 e f)(S:‹swapsWith e none pos.line X.env=pure false›):eR X G H0 (.Expr e pos) (je f):=⟨(Bx I.out S).imp λDn σ H U=>by
 obtain⟨W,env,fl,env',ok,q,k⟩:=U;cases e1:f env with
 |none=>simp[e1] at q |some r =>
   have q:↑(Fl.nx,r.2)=↑(fl,env'):=by simpa[je,e1] using q
   cases q;exact⟨W,env,_,_,ok,e1,λW1 v1 H1 V D p1=>k W1 σ H1 V D⟩⟩
structure xR (K:kf) (G:Gd) (J:It) (W:Addr->Prop) (H:Hp) (ds:k4):Prop where
 go:∀W' H' (i:Nat) d,Step W H W' H'->ds[i]?=↑d->J.go i H'/\∀x H'',J.yld i H' x H''->bC H' H''/\bB K H'' (Ow G W') d x
 stop:∀W' H',Step W H W' H'->J.stop ds.length H'
def CM(K:kf)(G:Gd)(H0:Hp)(f:FI):TI:=λσ H R=>DP K G H0 f (λW env ds env' =>
 ∀W' J H',Step W H W' H'->Ok K G H0 W' env' σ H'->xR K G J W' H' ds->R J H') σ H
structure kE (X:Cx) (G:Gd) (H0:Hp) (tg:Expr) (e:Expr) (f:FI):Prop where
 out:PI X tg e (CM X.K G H0 f)
variable{tg a:Expr}
def rP.dj{f:FI}(h:iX X G H0 tg a f):kE X G H0 tg a f:=⟨h.out.imp λσ H R z=>by
 obtain⟨W,env,ds,env',ok,q,k⟩:=z;exact⟨W,env,ds,env',ok,q,λW' J H' st D w=>k W' J H' st D ⟨λI H2 i d s e=>⟨(w.go I H2 i d s e).1,λx S y=>by
  obtain⟨U,r⟩:=(w.go I H2 i d s e).2 x S y;cases U;exact⟨bC.refl _,r⟩⟩,w.stop⟩⟩⟩
def oF(k:aP->Option (Fl×aP))(q:Fl×aP):Option (Fl×aP):=match q.1 with | .nx=>k q.2 | .ct=>k q.2 | .bk=>↑(.nx,q.2) | .rt d=>↑(.rt d,q.2) | .rf ds=>↑(.rf ds,q.2) | .r2 ds=>↑(.r2 ds,q.2) | .xc c=>↑(.xc c,q.2) | .ra k ps=>↑(.ra k ps,q.2)
variable{W':Addr->Prop}{H':Hp}{N:h6}
def eX.loop{V:Fl}{I:aP}{N:St->Hp->Prop}{kk:aP->Option (Fl×aP)}(k:eX X G H0 W H Dn env' fl)(st:Step W H W' H')(Y:oF kk (V,I)=↑(fl,env'))(Z:∀U D H2,Step W' H' U H2->Ok X.K G H0 U I D H2->kk I=↑(fl,env')->N D H2) :
  eX X G H0 W' H' { Dn with nx:=N,ct:=N,bk:=Dn.nx } I V:=by
 cases V with
 |nx=>exact λU D H2 s2 S=>Z U D H2 s2 S Y |ct=>exact λU D H2 s2 S=>Z U D H2 s2 S Y |bk=>cases Y;exact λU D H2 s2 S=>k U D H2 (st.trans s2) S
 |_=>cases Y;exact k.go rfl rfl st
inductive l2 (X:Cx) (G:Gd) (H0:Hp) (W1:Addr->Prop) (H1:Hp) (ds:k4) (L:k4->aP->Option (Fl×aP)) (r:Option (Fl×aP)) (n m:Nat) (σ:St) (H:Hp):Prop
 |mk (W:Addr->Prop) (env:aP) (hm:m=ds.length-n) (hn:n<=ds.length) (st:Step W1 H1 W H) (ok:Ok X.K G H0 W env σ H) (ef:L (ds.drop n) env=r):l2 X G H0 W1 H1 ds L r n m σ H
variable{g:FE}{body:List Stmt}{fi:FI}{b:Expr}{q:FT}
def CN{g:TG}{b:D->aP->Option aP}{L:k4->aP->Option (Fl×aP)}(hi:kE X G H0 tg a fi)(f:PG X tg g)(C:gA X G H0 body u)(E:∀ {W env env' σ H d x} {Q:St->Hp->Prop},Ok X.K G H0 W env σ H->bB X.K H (Ow G W) d x->b d env=↑env'->(∀S,Ok X.K G H0 W env' S H->Q S H)->g x σ H Q)(F:∀e,L [] e=↑(.nx,e))(h1:∀d r e,L (d::r) e=(b d e).bind λe'=>(u e').bind λq=>oF (L r) q)(M:PassesOwn (model X.prog X.w) X.A X.env X.xe)(N:X.calm=true)(O:∀x,foldedSetIterable a X.env x=pure x):eR X G H0 (.For tg a body [] pos) (λe=>(fi e).bind λr=>L r.1 r.2):=⟨(B4 M N hi.out f C.out O).imp λDn σ H z=>by
 obtain⟨W,env,fl,env',ok,q,k⟩:=z;obtain⟨⟨ds,env1⟩,P,q⟩:=db.mp q;refine⟨W,env,ds,env1,ok,P,λW1 J H1 s i t=>⟨l2 X G H0 W1 H1 ds L ↑(fl,env'),⟨ds.length,W1,env1,rfl,ie _,Step.refl,i,q⟩,λn m S H' z=>?_⟩⟩;obtain⟨W',v,R,T,st,Y,U⟩:=z;subst R;by_cases I:n<ds.length
 ·rw[il I,h1] at U
  obtain⟨Z,e2,U⟩:=db.mp U;obtain⟨⟨j,V⟩,e3,U⟩:=db.mp U;obtain⟨f,hy⟩:=t.go W' H' n ds[n] st (bc I);refine .inr ⟨f,λc H2=>∃B,B<ds.length-n/\l2 X G H0 W1 H1 ds L ↑(fl,env') (n+1) B c H2,λ_ _ h=>h,λx l y=>?_⟩;obtain⟨sm,rx⟩:=hy x l y;have sn:=st.trans (Step.same sm);exact E (Y.same sm) rx e2 λaa o=>⟨W',Z,j,V,o,e3,k.loop (s.trans sn) U λW2 c H2 s2 p e=>⟨_,oz _ _ I,W2,V,rfl,I,sn.trans s2,p,e⟩⟩
 ·cases lf T (i7 I)
  rw[ug,F] at U;cases U;exact .inl ⟨t.stop W' H' st,k W' S H' (s.trans st) Y⟩⟩
variable{px:Pos}
def mr{tg:Str}(hi:iX X G H0 (.Name tg px) a fi)(D:PG X (.Name tg px) (n9 i))(I:gA X G H0 body u)(S:PassesOwn (model X.prog X.w) X.A X.env X.xe:=by passes_own)(U:‹X.calm=true›)(V:∀x,foldedSetIterable a X.env x=pure x:=by intro _;rfl):eR X G H0 (.For (.Name tg px) a body [] pos) (bY i fi u) :=
 CN (b:=λd e=>↑(e.set i ⇑d)) (L:=cF i u) hi.dj D I (λok r e k=>by cases e;exact k _ (ok.set r)) (λ_=>rfl) (λ_ _ _=>rfl) S U V
inductive lA (X:Cx) (G:Gd) (H0:Hp) (W1:Addr->Prop) (H1:Hp) (L:Nat->aP->Option (Fl×aP)) (r:Option (Fl×aP)) (m:Nat) (σ:St) (H:Hp):Prop
 |mk (W:Addr->Prop) (env:aP) (st:Step W1 H1 W H) (ok:Ok X.K G H0 W env σ H) (ef:L m env=r):lA X G H0 W1 H1 L r m σ H
variable{n:Nat}
def xS(j:gD X G H0 c p)(l:gA X G H0 body u)(o:PassesOwn (model X.prog X.w) X.A X.env X.xe:=by passes_own):eR X G H0 (.While c body [] pos) (pq p u n):=⟨(GE o j.out l.out).imp λDn σ H z=>by
 obtain⟨W,env,fl,env',ok,q,k⟩:=z;refine⟨lA X G H0 W H (pq p u) ↑(fl,env'),⟨n,W,env,Step.refl,ok,q⟩,λm Z H' z=>?_⟩;obtain⟨W',U,st,a,S⟩:=z;cases m with
 |zero=>cases S
 |succ m =>
   obtain⟨⟨t,D⟩,r,S⟩:=db.mp S;refine⟨W',U,t,D,a,r,λf H2 s2 V=>?_⟩;cases t with
   |false =>
     cases S;exact k f Z H2 (st.trans s2) V
   |true =>
     obtain⟨⟨b,I⟩,s,S⟩:=db.mp S;exact⟨λY g=>∃i,i<m+1/\lA X G H0 W H (pq p u) ↑(fl,env') i Y g,λ_ _ h=>h,f,D,b,I,V,s,k.loop (kk:=pq p u m) (st.trans s2) S λv Y g x d e=>⟨m,ft _,v,I,(st.trans s2).trans x,d,e⟩⟩⟩
def lB(h:n<2 ^ 20):n<sizeLine:=bn h (by rw[gz];decide)
@[simp] def z8(d:D)(e:aP)(i:Nat):Option (D×aP):=match e[i]? with
 |some ↑(.ow ds)=>if cI (ds.length+1) then ↑(.non,e.set i ↑(.ow (ds++[d]))) else none
 |_=>none
@[simp] def oj(i:Nat)(f:FE):FE:=λe=>match e[i]? with
 |some ↑(.ow _)=>(f e).bind λr=>z8 r.1 r.2 i
 |_=>none
variable{p1:Pos}
def uc(j:aS X G H0 a f)(an:bR Nn Cn X)(Y:‹Nn[i]?=↑x›)(D:‹attributeBase (.Name x p') "append" X.env (eval (.Name x p') X.env)=eval (.Name x p') X.env›)(S:((backTo pos (starEach [a] X.env)).all (λx=>!x.1) && (backToKw pos (keywordEach [] X.env)).all (λx=>x.1.isSome)
   && decide ([a].length+([]:List Keyword).length+(if ([]:List Keyword).isEmpty then 0 else 1)<30))=true:=by rfl)(I:‹(p1.endLine==pos.line)=true›)(e:‹starEach [a] X.env=(false,eval a X.env)::starEach [] X.env›) :
  aS X G H0 (.Call (.Attribute (.Name x p') "append" p1) [a] [] pos) (oj i f):=⟨(rD gw PySem.F.slot_list_append PySem.F.type_list_append Cg ((an.a Y).pe) (om j.out tw e) D S I e rfl).imp λσ H Q m=>by
 obtain⟨W,env,d,env',ok,q,k⟩:=m;unfold oj at q;split at q;case h_2=>cases q
 rename_i n Z;obtain⟨v,b,l,o,rfl,p,c,_⟩:=ok.slot i _ Z;cases e1:f env with
 |none=>rw[e1] at q;cases q
 |some r =>
   obtain⟨s,env1⟩:=r;rw[e1,ac] at q;unfold z8 at q;split at q;case h_2=>cases q
   rename_i ds g;split at q;case isFalse=>cases q
   rename_i U;cases q;refine⟨_,b,.inl ⟨rfl,_,.inl (.inl c)⟩,W,env,s,env1,ok,e1,λW1 v1 H1 t V u=>?_⟩;obtain⟨B,h,l',vs,w,C,y,r⟩:=V.slot i _ g;rw[b] at h;cases h;cases w;obtain⟨z,A⟩:=V.turn g b (r.append (.cons u .nil));exact⟨l,vs,v1,rfl,rfl,y,by rw[<-r.length];exact lB (sw U),k W1 _ _ (t.trans A) z .non⟩⟩
@[simp] def lC(i:Nat):FE:=λe=>match e[i]? with
 |some ↑(.ow ds)=>(ds[ds.length-1]?).map λd=>(d,e.set i ↑(.ow ds.dropLast))
 |_=>none
def Jc(an:bR Nn Cn X)(S:‹Nn[i]?=↑x›)(D:‹attributeBase (.Name x p') "pop" X.env (eval (.Name x p') X.env)=eval (.Name x p') X.env›)(I:‹(p1.endLine==pos.line)=true›) :
  aS X G H0 (.Call (.Attribute (.Name x p') "pop" p1) [] [] pos) (lC i):=⟨(Cd gw PySem.F.slot_list_pop PySem.F.type_list_pop Ch ((an.a S).pe) D I).imp λσ H Q b=>by
 obtain⟨W,env,d,env',ok,q,k⟩:=b;unfold lC at q;split at q;case h_2=>cases q
 rename_i ds U;obtain⟨v,V,l,vs,rfl,g,Y,r⟩:=ok.slot i _ U;cases e1:ds[ds.length-1]? with
 |none=>rw[e1] at q;cases q
 |some d' =>
   rw[e1] at q;cases q;obtain⟨u,c,e⟩:=r.get e1;obtain⟨f,Z⟩:=ok.turn U V r.dropLast;exact⟨_,V,.inl ⟨rfl,_,.inl (.inl Y)⟩,l,vs,u,rfl,rfl,Y,by rw[<-r.length];exact c,k W _ _ Z f (ok.rep Z e)⟩⟩
@[simp] def rX(d k:D)(e:aP)(i:Nat):Option (Fl×aP):=match k,e[i]? with
 | .int k,↑↑(.ow ds)=>(eI ds.length k).map λj=>(.nx,e.set i ↑(.ow (ds.set j d)))
 |_,_=>none
@[simp] def yp(i:Nat)(D I:FE):FS:=λe=>(I e).bind λr=>match r.2[i]? with
 |some ↑(.ow _)=>(D r.2).bind λq=>rX r.1 q.1 q.2 i
 |_=>none
def xT(m:aS X G H0 b g)(n:aS X G H0 e f)(an:bR Nn Cn X)(V:‹Nn[i]?=↑x›)(o:‹swapsWithSole [.Subscript (.Name x p') b p1] e pos.line X.env=pure false›)(p:‹swappedStores [.Subscript (.Name x p') b p1] e X.env=pure none›)(h1:‹(assignEach [.Subscript (.Name x p') b p1] X.env).map (·.2)=[assign (.Subscript (.Name x p') b p1) X.env]›)(I:∀v,assign (.Subscript (.Name x p') b p1) X.env v=(do
   let ov <-holding [v] (eval (.Name x p') X.env);let iv <-holding [v,ov] (eval b X.env)
   standAt p1
   holding [v,ov,iv] (setItem ov iv v)
   release [v,ov,iv] []):=by intro _;rfl) :
  eR X G H0 (.Assign [.Subscript (.Name x p') b p1] e pos) (yp i g f):=⟨(nJ n.out (qY ((an.a V).pe) m.out mv I) o p h1).imp λDn σ H s=>by
 obtain⟨W,env,fl,env',ok,q,k⟩:=s;cases e1:f env with
 |none=>simp[e1] at q |some r =>
   obtain⟨t,env1⟩:=r;simp only[yp,e1,ac] at q;split at q;case h_2=>cases q
   rename_i u Y;cases e2:g env1 with
   |none=>rw[e2] at q;cases q
   |some Z =>
     obtain⟨L,S⟩:=Z;rw[e2,ac] at q;unfold rX at q;dsimp only at q;split at q;case h_2=>cases q
     rename_i kk ds d;cases e3:eI ds.length kk with
     |none=>rw[e3] at q;cases q
     |some j =>
       rw[e3] at q;cases q;refine⟨W,env,t,env1,ok,e1,λW1 v1 H1 w D y=>?_⟩;obtain⟨v,c,l,z,rfl,A,B,_⟩:=D.slot i _ Y;refine⟨_,c,W1,env1,_,S,D,e2,λC v2 H2 s2 U Z=>?_⟩;obtain⟨M,h,l',vs,E,N,F,r⟩:=U.slot i _ d;rw[c] at h;cases h;cases E;obtain⟨J,K⟩:=U.turn d c (aL.set (D.rep s2 y) j r);exact⟨l,vs,kk,j,rfl,Z.int_,F,by rw[<-r.length];exact e3,k C _ _ ((w.trans s2).trans K) J⟩⟩
def ki(n:Nat)(ds:k4):aP:=ds.map (λd=>↑(Sl.sh d))++List.replicate (n-ds.length) none
def aR(n ar:Nat)(g:FS):k4->k6:=λds=>if ds.length=ar then(match g (ki n ds) with |some (.rt d,_)=>↑d |some (.nx,_)=>some .non |_=>none) else none
def gS(n ar:Nat)(g:FS):k4->Option k4:=λds=>if ds.length=ar then(match g (ki n ds) with |some (.rf d,_)=>↑d |_=>none) else none
def rY:∀ {n:Nat} {ds:k4} {i:Nat} {s:Sl},(ki n ds)[i]?=↑↑s->∃d,ds[i]?=↑d/\s=.sh d:=λ{n ds i s} h=>by
 unfold ki at h;by_cases hi:i<ds.length
 ·rw[ay (by simpa using hi),cb] at h
  cases e:ds[i]? with
  |none=>rw[e] at h;cases h
  |some d=>rw[e] at h;cases h;exact⟨d,rfl,rfl⟩
 ·rw[cy (by simpa using hi),List.getElem?_replicate] at h
  split at h <;> cases h
variable{O:Addr->Prop}{ds:k4}{vs:kv}{K:kf}
def xz(r:aL K H O ds vs):Ok K (gd λa=>O a\/H a=none) H dA (ki N.length ds) (start N vs) H:=by
 refine⟨bC.refl _,λa z=>.inr z,λl z=>z.elim,λi s e=>?_,λi j U s2 v1 v2 a D _ _ _ o _=>?_,?_⟩
 ·obtain⟨d,D,rfl⟩:=rY e
  obtain⟨v,I,S⟩:=r.get D;refine⟨v,?_,S.mono (λ_ _ h=>h) λa us o h=>⟨⟨.inl o,λz=>z⟩,h⟩⟩;unfold start;rw[ay (by simpa using(aj.mp I).1),cb,I];rfl
 ·obtain⟨d,_,z⟩:=rY D
  subst z;exact o.elim
 ·unfold ki start
  rw[ax,ax,ai,ai,fy,fy,r.length]
variable{f:Addr}{CX:hY}{qual:Str}{st:Stmt}{fd:FuncData}{ps:h6}{k ar:Nat}{P:Program}{w:World}{mg:Str->h8}{base:Heap}
theorem oG{g:FS}(F:hB K x qual st f fd)(S:ut N ps (ip st))(Y:n=N.length)(Z:ar=ps.length)(D:∀(cdv:Value) (A:Around) (outer:i0) (s:Shared) (H:Hp) (E:XK) (G:Gd) (H0:Hp),bA k (A.deeper (envOfC qual (ip st) s.heap.objs.size f cdv)) ->
   gA (cG CX P w K mg base N qual (ip st) f cdv A outer s H E).nox G H0 (ny st) g):cJ P w K mg base CX (k+1) f fd ps (cM K (aR n ar g)):=by
 subst Y Z;refine F.okC S (λvs H Q E h=>?_) (λcdv A outer s H vs Q E b h=>?_)
 ·obtain⟨O,ds,d,r,e,_⟩:=h
  rw[<-r.length];unfold aR at e;split at e
  ·assumption
  ·cases e
 ·obtain⟨O,ds,d,r,e,k⟩:=h
  refine⟨_,(D cdv A outer s H E (gd λa=>O a\/H a=none) H b).out,?_⟩;unfold aR at e;split at e;case isFalse=>cases e
  split at e
  ·rename_i d' env' U
   cases e;exact⟨dA,_,_,env',xz r,U,λW' V v H' st I c=>k v H' I.stay (c.mono (λ_ _ h=>h) λa us o h=>⟨o.1,h⟩)⟩
  ·rename_i env' U
   cases e;exact⟨dA,_,_,env',xz r,U,λW' V H' st I=>k .non H' I.stay .non⟩
  ·cases e
theorem xU{g:FS}(F:hB K x qual st f fd)(S:ut N ps (ip st))(I:n=N.length)(U:ar=ps.length)(D:∀(cdv:Value) (A:Around) (outer:i0) (s:Shared) (H:Hp) (E:XK) (G:Gd) (H0:Hp),bA k (A.deeper (envOfC qual (ip st) s.heap.objs.size f cdv)) ->
   gA (cG CX P w K mg base N qual (ip st) f cdv A outer s H E).nox G H0 (ny st) g):cJ P w K mg base CX (k+1) f fd ps (kP K (gS n ar g)):=by
 subst I U;refine F.okC S (λvs H Q E h=>?_) (λcdv A outer s H vs Q E V h=>?_)
 ·obtain⟨O,ds,d,r,e,_⟩:=h
  rw[<-r.length];unfold gS at e;split at e
  ·assumption
  ·cases e
 ·obtain⟨O,ds,d,r,e,k⟩:=h
  refine⟨_,(D cdv A outer s H E (gd λa=>O a\/H a=none) H V).out,?_⟩;unfold gS at e;split at e;case isFalse=>cases e
  split at e
  ·rename_i d' env' Y
   cases e;exact⟨dA,_,_,env',xz r,Y,λl vs' H' sm Z b c=>k l vs' H' sm Z b c⟩
  ·cases e
def rZ(K:kf):Sp:=λvs H Q _=>∃(a:Addr) (ns:ik),vs=[.ref a]/\dH K H a (ns.map V.int)/\ns.length<=63/\∀H',Q (.bl true) H'
variable{m:k4->k6}
theorem Jd(F:cJ P w K mg base CX k f fd ps (cM K m))(h:∀ns:ik,ns.length<=63->m [.lst (ns.map D.int)]=↑(.bl true)) :
  cJ P w K mg base CX k f fd ps (rZ K):=F.imp λvs H Q E I=>by
 obtain⟨a,ns,e,S,U,q⟩:=I;subst e;exact⟨λ_=>True,[.lst (ns.map D.int)],.bl true,.cons (S.elim (λz=>.lst trivial z (xD ns)) λz=>.klst z (xD ns)) .nil,h ns U,λv H' _ r=>by rw[r.bl_];exact q H'⟩
def xV:∀σ H Q,tD X.K G H0 (aJ F) σ H Q->hC X.K G H0 F σ H Q:=λσ H Q V=>by
 obtain⟨W,env,d,env',ok,q,k⟩:=V;cases e1:F env with
 |none=>simp[e1] at q |some r =>
   have q:↑(D.lst r.1,r.2)=↑(d,env'):=by simpa[aJ,e1] using q
   cases q;refine⟨W,env,_,_,ok,e1,λW1 l vs H1 U I S Y Z b=>k W1 _ H1 ⟨U.keep,λa z=>U.ws a (.inl z)⟩ I (.lst ⟨I.good l (S.wl l (.inr rfl)).1,Y⟩ (.inl Z) (b.mono (λ_ _ h=>h) λa us o h=>⟨⟨o.1,λz=>o.2 (.inl z)⟩,h⟩))⟩
variable{f:FE}
def f6(I:eJ Nn X)(S:aS X G H0 e f)(D:‹Nn[i]?=↑x›)(U:‹swapsWith e ↑(.Name x p') pos.line X.env=pure false›):eR X G H0 (.Assign [.Name x p'] e pos) (aH i f):=Ja (I.t D).nd (I.t D).n S (qZ (I.t D).nd (I.t D).n (I.t D).l S.out U (I.t D).f)
def r_(ps:PS X (.Assign [.Name x p'] e pos) (fB (hC X.K G H0 F) (n9 i))):eR X G H0 (.Assign [.Name x p'] e pos) (aH i (aJ F)):=⟨(PS.imp ps (t':=fB (tD X.K G H0 (aJ F)) (n9 i)) λDn σ H h=>xV σ H _ h).imp λDn σ H I=>by
 obtain⟨W,env,fl,env',ok,q,k⟩:=I;cases e1:aJ F env with
 |none=>simp only[aH,e1,nk] at q;cases q
 |some r =>
   have q:↑(Fl.nx,r.2.set i ↑(Sl.sh r.1))=↑(fl,env'):=by simpa only[aH,e1,ah] using q
   cases q;exact⟨W,env,_,_,ok,e1,λW1 v1 H1 S D p1=>k W1 _ H1 S (D.set p1)⟩⟩
variable{y:Str}{ix:ic}{sc:Scope}{py spos:Pos}{te:FE}
def ze(an:bR Nn Cn X)(U:eJ Nn X)(hi:iX X G H0 (.Name x px) a fi)(V:∀cl C s₂ H₂ fp G H0,bR (x::(aT Nn ix)) (aT Nn ix) (kq X x (aT Nn ix) sc cl C s₂ H₂ fp)->aS (kq X x (aT Nn ix) sc cl C s₂ H₂ fp) G H0 e te)(S:t9 Nn Cn ix x sc=true:=by decide +kernel)(Z:‹X.calm=true›)(I:‹Nn[i]?=↑y›)(Y:‹swapsWith (.ListComp e [⟨.Name x px,a,[],0⟩] sc pos) ↑(.Name y py) spos.line X.env=pure true›)(b:∀v,foldedSetIterable a X.env v=pure v:=by intro _;rfl) :
  PS X (.Assign [.Name y py] (.ListComp e [⟨.Name x px,a,[],0⟩] sc pos) spos) (fB (hC X.K G H0 (jf fi ix b_ te)) (n9 i)) :=
 (nY (xv an S) (λ_ _ _ _ _ _ _ _ _=>Z) (U.t I).nd (U.t I).n (U.t I).l hi.out (λcl C s₂ H₂ fp _=>z9 (X:=X) rfl) (λcl C s₂ H₂ fp _=>fZ (X:=X) rfl (λG H0=>V cl C s₂ H₂ fp G H0 (uw S))) Y (U.t I).f b).imp λD σ H h=>rT σ H _ h
variable{tt:FT}{cd:Expr}
def Je{Cm:Cx->Prop}(d:∀cl C s₂ H₂ fp pins σ,Inv X pins σ H₂ s₂->(∀b∈fp,dX X pins H₂ b)->Cm (kq X x (aT Nn ix) sc cl C s₂ H₂ fp))(an:bR Nn Cn X)(U:eJ Nn X)(hi:rP Cm X G H0 (.Name x px) a fi)(V:∀cl C s₂ H₂ fp G H0,Cm (kq X x (aT Nn ix) sc cl C s₂ H₂ fp)->bR (x::(aT Nn ix)) (aT Nn ix) (kq X x (aT Nn ix) sc cl C s₂ H₂ fp)->gD (kq X x (aT Nn ix) sc cl C s₂ H₂ fp) G H0 cd tt)(Y:∀cl C s₂ H₂ fp G H0,Cm (kq X x (aT Nn ix) sc cl C s₂ H₂ fp)->bR (x::(aT Nn ix)) (aT Nn ix) (kq X x (aT Nn ix) sc cl C s₂ H₂ fp)->aS (kq X x (aT Nn ix) sc cl C s₂ H₂ fp) G H0 e te)(S:t9 Nn Cn ix x sc=true:=by decide +kernel)(I:‹Nn[i]?=↑y›)(Z:‹swapsWith (.ListComp e [⟨.Name x px,a,[cd],0⟩] sc pos) ↑(.Name y py) spos.line X.env=pure true›)(g:∀v,foldedSetIterable a X.env v=pure v:=by intro _;rfl) :
  PS X (.Assign [.Name y py] (.ListComp e [⟨.Name x px,a,[cd],0⟩] sc pos) spos) (fB (hC X.K G H0 (jf fi ix tt te)) (n9 i)) :=
 (nY (xv an S) d (U.t I).nd (U.t I).n (U.t I).l hi.out (λcl C s₂ H₂ fp c=>k_ (X:=X) rfl (λG H0=>V cl C s₂ H₂ fp G H0 c (uw S))) (λcl C s₂ H₂ fp c=>fZ (X:=X) rfl (λG H0=>Y cl C s₂ H₂ fp G H0 c (uw S))) Z (U.t I).f g).imp λD σ H h=>rT σ H _ h
abbrev kF:=aP->Option (List k4×aP)
def kG(K:kf)(G:Gd)(H0:Hp)(f:kF):TE:=λσ H Q=>DP K G H0 f (λW env dss env' =>
 ∀W' l H',Step W H W' H'->Ok K G H0 W' env' σ H'->dU K G W' H' (.o2 dss) (.ref l) ->
  (∀(j:Nat) (s:Sl) (v:V) (a:Addr),env'[j]?=↑↑s->σ[j]?=↑↑v->bO H' (.o2 dss) (.ref l) a->¬bO H' s v a)->Q (.ref l) H') σ H
structure Jf (X:Cx) (G:Gd) (H0:Hp) (e:Expr) (f:kF):Prop where
 out:PE X e (kG X.K G H0 f)
@[simp] def oH(i:Nat)(f:kF):FS:=λe=>(f e).map λr=>(.nx,r.2.set i ↑(.o2 r.1))
def Jg{f2:kF}(ps:PS X (.Assign [.Name x p'] e pos) (fB (kG X.K G H0 f2) (n9 i))):eR X G H0 (.Assign [.Name x p'] e pos) (oH i f2):=⟨ps.imp λDn σ H I=>by
 obtain⟨W,env,fl,env',ok,q,k⟩:=I;cases e1:f2 env with
 |none=>simp[e1] at q |some r =>
   have q:↑(Fl.nx,r.2.set i ↑(Sl.o2 r.1))=↑(fl,env'):=by simpa[oH,e1] using q
   cases q;exact⟨W,env,_,_,ok,e1,λW1 l H1 S D h1 U=>k W1 _ H1 S (D.put h1 U)⟩⟩
def oI(te:FA)(base:aP):k4->Option (List k4)
 | []=>↑[] |d::r=>(te (⇑d::base)).bind λv=>(oI te base r).map (v.1::·)
def oJ(fi:FI)(ix:ic)(te:FA):kF:=λe=>(fi e).bind λr=>if cI r.1.length then(oI te (ix.map λj=>gH (r.2.getD j none)) r.1).map λds=>(ds,r.2) else none
def oK(K:kf)(f:FA):TE:=λσ H Q=>∃G H0,hC K G H0 f σ H Q
variable{te:FA}
def Jh{X':Cx}(D:X'.K=X.K)(h:∀G H0,fW X' G H0 e te):PE X' e (oK X.K te):=λpins s σ H Q I ⟨G,H0,q⟩=>(h G H0).out pins s σ H Q I (by rw[D];exact q)
inductive CO (X:Cx) (G:Gd) (H0:Hp) (env:aP) (σ:St) (W1:Addr->Prop) (H1:Hp) (ds:k4) (d:List k4) (f:k4->Option (List k4)) (i m:Nat) (H':Hp) (ys:kv):Prop
 |mk (Wi:Addr->Prop) (rest done:List k4) (ls:ia) (hm:m=ds.length-i) (hi:i<=ds.length) (sm:bC H1 H') (st:Step W1 H1 Wi H') (ok:Ok X.K G H0 Wi env σ H') (hy:ys=ls.map V.ref) (inn:wX X.K G Wi H' done ls) (nd:ls.Nodup) (fr:∀a∈ls,H1 a=none) (hd:done.length<=i) (ec:f (ds.drop i)=↑rest) (hz:d=done++rest):CO X G H0 env σ W1 H1 ds d f i m H' ys
theorem Ji:∀σ H Q,kG X.K G H0 (oJ fi ix te) σ H Q->xp (xF X.K G H0 fi) ix (gR X.K b_) (oK X.K te) σ H Q:=λσ H Q z=>by
 obtain⟨W,env,d,env',ok,q,k⟩:=z;obtain⟨⟨ds,env1⟩,e1,q⟩:=db.mp q;by_cases O:cI ds.length;case neg=>cases (bw O).symm.trans q
 obtain⟨an,e2,q⟩:=fq.mp ((am O).symm.trans q);cases q;refine⟨W,env,ds,_,ok,e1,λW1 J H1 s1 g wk=>⟨CO X G H0 env1 σ W1 H1 ds d (oI te (ix.map λj=>gH (env1.getD j none))),⟨ds.length,W1,d,[],[],rfl,ie _,bC.refl _,Step.refl,g,rfl,⟨rfl,λj ds a e=>by cases e⟩,List.nodup_nil,(λa h=>by cases h),cw _,e2,rfl⟩,λi m H' ys z=>?_⟩⟩;obtain⟨A,rest,D,ls,hm,hi,sm,st,U,hy,Y,nd,fr,hd,u,P⟩:=z;subst hm hy;have I:ls.length=D.length:=Y.1;have B:∀a∈ls,∃vs,H' a=↑(.lst vs):=λa C=>by
  obtain⟨j,R,e⟩:=p9 C;obtain⟨_,vs,h,_⟩:=Y.2 j (D[j]'(I ▸ R)) a (bc _) (e ▸ bc R);exact⟨vs,h⟩
 by_cases S:i<ds.length
 ·rw[il S] at u
  obtain⟨⟨dv,E⟩,e4,u⟩:=db.mp u;obtain⟨n,e5,e6⟩:=fq.mp u;obtain⟨hg,hy⟩:=wk.go A H' i ds[i] st (bc S);refine .inr ⟨hg,λx Z y=>?_⟩;obtain⟨e,rx⟩:=hy x Z y;subst e;refine⟨_,_,dA,_,true,_,CC (ix:=ix) U rx,rfl,λW2 H2 s2 aa=>?_⟩;refine⟨_,_,W2,_,dv,E,aa,e4,λW3 l vs H3 s3 ab F nW L rp=>⟨?_,ds.length-(i+1),oz _ _ S,?_⟩⟩
  ·rw[ai,I];exact bn (l7 hd (bn S O)) rR
  ·have p:bC Z H3:=ab.stay
   have c:Z l=none:=(F.wl l (.inr rfl)).1;obtain⟨q1,q2,q3,T,q5⟩:=U.fresh p c L (rp.mono (O':=λa=>(Ow G A a\/Z a=none)/\a≠l) (λ_ _ h=>h) λa us o h=>⟨⟨o.1,λz=>o.2 (.inr z)⟩,h⟩);have nl:l∉ls:=λz=>by obtain⟨us,h⟩:=B l z;rw[c] at h;cases h
   refine⟨cE A l,n,D++[dv],ls++[l],rfl,S,sm.trans p,st.trans q5,q3,by simp,⟨by simp[I],λj es a ea f=>?_⟩,?_,λa C=>?_,by rw[ax,jd];lia,e5,by rw[P,<-e6,ek];rfl⟩
   ·by_cases R:j<D.length
    ·rw[ay R] at ea
     rw[ay ∅] at f;obtain⟨w,us,h,r⟩:=Y.2 j es a ea f;exact⟨.inl w,us,p _ _ h,U.reps q5 r⟩
    ·rw[cy ∅] at ea
     rw[cy ∅,I] at f;have P:j-D.length=0:=by
      have:=(aj.mp ea).1;simp at this;lia
     rw[P] at ea f;simp[Option.some.injEq] at ea f;subst ea f;exact⟨.inr rfl,vs,L,T⟩
   ·rw[sy]
    exact⟨nd,by simp,λa C b hb=>by simp only[dc] at hb;subst hb;intro z;subst z;exact nl C⟩
   ·rcases dg.mp C with z |z
    ·exact fr a z
    ·rw[dc.mp z];exact sm.free c
 ·cases lf hi (i7 S)
  rw[ug] at u;cases u;refine .inl ⟨wk.stop A H' st,by rw[ai,I];exact d7 hd (d7 O rR),λl c=>?_⟩;have t:bC H' (aX H' l (.lst (ls.map V.ref))):=uz c;obtain⟨q1,q2,q3,T⟩:=U.fresh0 (vs:=ls.map V.ref) t c md;have nl:l∉ls:=λz=>by obtain⟨us,h⟩:=B l z;rw[c] at h;cases h
  have ag:bC H1 (aX H' l (.lst (ls.map V.ref))):=sm.trans t;rw[P,du] at k;refine k (cE A l) l _ ((s1.trans st).trans T) q3 ⟨l,ls,rfl,.inr rfl,md,ci.mpr ⟨nl,nd⟩,Y.1,λj es a ea f=>?_⟩ λj s v a ej ev o1 o2=>?_
  ·obtain⟨w,us,h,r⟩:=Y.2 j es a ea f
   exact⟨.inl w,us,t _ _ h,U.reps T r⟩
  ·obtain⟨v',M,hs⟩:=g.slot j s ej
   rw[ev] at M;cases M;have al:bO H1 s v a:=hs.back (λl' _ _ vs q=>ag _ _ q) o2;have wa:W1 a:=hs.owns al;have N:H1 a≠none:=λz=>by obtain⟨_,us,q⟩:=g.wl a wa;rw[z] at q;cases q
   rcases o1 with o1 | ⟨l',ls',z,q,hb⟩
   ·cases o1;exact N (sm.free c)
   ·cases z
    rw[md] at q;have:=zf (by simpa using q);subst this;exact N (fr a hb)
def Jj(an:bR Nn Cn X)(U:eJ Nn X)(hi:iX X G H0 (.Name x px) a fi)(V:∀cl C s₂ H₂ fp G H0,bR (x::(aT Nn ix)) (aT Nn ix) (kq X x (aT Nn ix) sc cl C s₂ H₂ fp)->fW (kq X x (aT Nn ix) sc cl C s₂ H₂ fp) G H0 e te)(S:t9 Nn Cn ix x sc=true:=by decide +kernel)(Z:‹X.calm=true›)(I:‹Nn[i]?=↑y›)(Y:‹swapsWith (.ListComp e [⟨.Name x px,a,[],0⟩] sc pos) ↑(.Name y py) spos.line X.env=pure true›)(b:∀v,foldedSetIterable a X.env v=pure v:=by intro _;rfl) :
  PS X (.Assign [.Name y py] (.ListComp e [⟨.Name x px,a,[],0⟩] sc pos) spos) (fB (kG X.K G H0 (oJ fi ix te)) (n9 i)) :=
 (nY (xv an S) (λ_ _ _ _ _ _ _ _ _=>Z) (U.t I).nd (U.t I).n (U.t I).l hi.out (λcl C s₂ H₂ fp _=>z9 (X:=X) rfl) (λcl C s₂ H₂ fp _=>Jh (X:=X) rfl (λG H0=>V cl C s₂ H₂ fp G H0 (uw S))) Y (U.t I).f b).imp λD σ H h=>Ji σ H _ h
variable{α:Type}{j:Nat}
def Jk{xs:List α}{k:Int}{y:α}(h:eI xs.length k=↑j)(h2:xs[j]?=↑y):bG xs k=↑y:=by
 unfold bG;rw[h];exact h2
variable{v:V}{env:aP}{σ:St}
def Jl{dss:List k4}{k:Int}(ok:Ok X.K G H0 W env σ H)(Y:env[i]?=↑↑(.o2 dss))(Z:σ[i]?=↑↑v)(b:eI dss.length k=↑j)(S:dss[j]?=↑ds) :
  ∃(l:Addr) (ls:ia) (a:Addr) (vs:kv),v=.ref l/\H l=↑(.lst (ls.map V.ref))/\ls[j]?=↑a/\bG (ls.map V.ref) k=↑(.ref a)/\H a=↑(.lst vs)/\aL X.K H (Ow G W) ds vs:=by
 obtain⟨d,U,l,ls,rfl,e,c,f,hi⟩:=ok.slot i _ Y;rw[Z] at U;cases U;have I:j<ls.length:=by rw[hi.1];exact(aj.mp S).1
 obtain⟨_,vs,h,r⟩:=hi.2 j ds ls[j] S (by simp[I]);exact⟨l,ls,ls[j],vs,rfl,c,by simp[I],Jk (j:=j) (by rw[ai,hi.1];exact b) (by simp[I]),h,r⟩
def xW{env:Env}:∀ {names:List (Str×NameKind)} {x:Str},names.lookup x=some .globalImplicit ->
  (names.map λ(n,k)=>if (k==NameKind.free && env.scope.kind==.function && env.kindOf n==some .cell) then(n,NameKind.cell) else(n,k)).lookup x=some .globalImplicit
 | (n,k)::r,x,h=>by
   have D:=@xW env r x;show List.lookup x ((if (k==NameKind.free && env.scope.kind==.function && env.kindOf n==some .cell)=true then(n,NameKind.cell) else(n,k))::_)=_;cases hx:x==n with
   |true =>
     simp only[di,hx] at h;cases h;simp[di,hx]
   |false =>
     simp only[di,hx] at h;by_cases I:(k==NameKind.free && env.scope.kind==.function && env.kindOf n==some .cell)=true
     ·rw[am I];simp only[di,hx];exact D h
     ·rw[bw I];simp only[di,hx];exact D h
variable{s:Shared}{N':h6}{cl:List (Str×Addr)}{C:Addr}{fp:ia}
def xX(h:sc.names.lookup x=some .globalImplicit):Gl (kq X y N' sc cl C s H fp) x:=xW h
def Jm:Ty "int" "int":=⟨by decide +kernel,by decide +kernel,by decide +kernel,by decide +kernel⟩
def Jn:Ty "bool" "bool":=⟨by decide +kernel,by decide +kernel,by decide +kernel,by decide +kernel⟩
def xY:Ty "str" "str":=⟨by decide +kernel,by decide +kernel,by decide +kernel,by decide +kernel⟩
def CP:Ty "list" "list":=⟨by decide +kernel,by decide +kernel,by decide +kernel,by decide +kernel⟩
def CQ:Ty "tuple" "tuple":=⟨by decide +kernel,by decide +kernel,by decide +kernel,by decide +kernel⟩
def Jo(l:List α)(k:Nat)(y:α):(l.toArray.extract 0 k).push y++l.toArray.extract k=(l.take k++y::l.drop k).toArray:=by
 simp;exact j8 ⋯
def Jp:V->kv->Hp->VK->Prop:=λx vs H Q=>∃(l:Addr) (xs:kv) (i:Int) (y:V),x=.ref l/\vs=[↥i,y]/\H l=↑(.lst xs)/\0<=i/\i<=xs.length/\i<2 ^ 62/\xs.length<sizeLine/\Q .non (aX H l (.lst (xs.take i.toNat++y::xs.drop i.toNat)))
def aN.ins{xs:kv}{its:h7}{y:V}{u:Value}(r:aN xs its)(D:aN [y] [u])(k:Nat):aN (xs.take k++y::xs.drop k) (its.take k++u::its.drop k):=by
 have:=(r.take k).append (D.append (r.drop k));simpa using this
theorem Jq:rE X "list.insert" Jp:=by
 intro pins s σ H x vs v us Q I Y Z h;obtain⟨l,xs,i,y,rfl,rfl,U,b,h1,h2,c,q⟩:=h;cases Y;obtain⟨d,V,rfl,D,S⟩:=Z.two;obtain⟨t,rfl⟩:=D;obtain⟨z,its,n,r,f,e⟩:=I.lstM U;refine pz F.slot_list_insert ⟨_,e,rfl⟩ F.entry_list_insert (F.args_list_insert_3 _ _ _) (PySem.AutoSeq1.list_insert_list_int_val_1 l its.toArray n i t V (by rw[fitsIndex_both (k:=i) ∅ ∅];decide) (by rw[bz];lia)) ⟨e,?_⟩;refine⟨.non,_,I.lset (its':=its.take i.toNat++V::its.drop i.toNat) U e ?_ (aN.ins r (.cons S .nil) _) ?_,rfl,q⟩
 ·have a:(if i<0 then(i+(its.toArray.size:Int)).toNat else min i.toNat its.toArray.size)=i.toNat:=by
   rw[bw ∅,bz]
   lia
  rw[a,Jo]
 ·rw[ax,ao,d8,fu]
  lia
def xZ(k d:D)(e:aP)(i:Nat):Option (D×aP):=match k,e[i]? with
 | .int k,↑↑(.ow ds)=>if 0<=k/\k<=ds.length/\cI (ds.length+1) then ↑(.non,e.set i ↑(.ow (ds.take k.toNat++d::ds.drop k.toNat))) else none
 |_,_=>none
def sd(i:Nat)(f g:FE):FE:=λe=>match e[i]? with
 |some ↑(.ow _)=>(ak f (ak g aC) e).bind λr=>match r.1 with | [k,d]=>xZ k d r.2 i |_=>none
 |_=>none
theorem Jr(s:aS X G H0 a f)(t:aS X G H0 b g)(an:bR Nn Cn X)(Y:‹Nn[i]?=↑x›)(I:‹attributeBase (.Name x p') "insert" X.env (eval (.Name x p') X.env)=eval (.Name x p') X.env›)(U:((backTo pos (starEach [a,b] X.env)).all (λx=>!x.1) && (backToKw pos (keywordEach [] X.env)).all (λx=>x.1.isSome)
   && decide ([a,b].length+([]:List Keyword).length+(if ([]:List Keyword).isEmpty then 0 else 1)<30))=true:=by rfl)(S:‹(p1.endLine==pos.line)=true›)(m:‹starEach [a,b] X.env=(false,eval a X.env)::starEach [b] X.env›)(Z:‹starEach [b] X.env=(false,eval b X.env)::starEach [] X.env›)(c:‹(backTo pos (starEach [b] X.env)).any (·.1)=false›) :
  aS X G H0 (.Call (.Attribute (.Name x p') "insert" p1) [a,b] [] pos) (sd i f g):=⟨(rD gw PySem.F.slot_list_insert PySem.F.type_list_insert Jq ((an.a Y).pe) (az s (az t b7 Z) m).out I U S m c).imp λσ H Q u=>by
 obtain⟨W,env,d,env',ok,q,k⟩:=u;unfold sd at q;split at q;case h_2=>cases q
 rename_i w e;obtain⟨v,h,l,y,rfl,z,j,_⟩:=ok.slot i _ e;cases e1:ak f (ak g aC) env with
 |none=>rw[e1] at q;cases q
 |some r =>
   obtain⟨A,env1⟩:=r;rw[e1,ac] at q;dsimp only at q;split at q;case h_2=>cases q
   unfold xZ at q;split at q;case h_2=>cases q
   rename_i kk ds n;split at q;case isFalse=>cases q
   rename_i B;obtain⟨C,E,o⟩:=B;cases q;refine⟨_,h,.inl ⟨rfl,_,.inl (.inl j)⟩,W,env,_,env1,ok,e1,λW1 J H1 K V L=>?_⟩;obtain⟨T,p,l',vs,M,hW,N,r⟩:=V.slot i _ n;rw[h] at p;cases p;cases M;cases L with
   |cons q1 r2 =>
   cases r2 with
   |cons q2 r3 =>
   cases r3;cases q1;obtain⟨O,P⟩:=V.turn n h ((r.take kk.toNat).append (.cons q2 (r.drop kk.toNat)));have D:=r.length;have R:ds.length<sizeLine:=lB (sw o);have c4:ds.length+1<=2 ^ 20:=o;exact⟨l,vs,kk,_,rfl,rfl,N,C,by rw[<-D];exact E,by lia,by rw[<-D];exact R,k W1 _ _ (K.trans P) O .non⟩⟩
def wm:ic->k4->aP->aP
 |i::ix,d::ds,e=>wm ix ds (e.set i ⇑d)
 |_,_,e=>e
def iN:ic->kN
 | []=>nH |i::ix=>By (n9 i) (iN ix)
def mG(ix:ic)(d:D)(e:aP):Option aP:=match d with
 | .tup ds=>if ds.length=ix.length then ↑(wm ix ds e) else none
 |_=>none
def gI(ix:ic)(g:FS):k4->aP->Option (Fl×aP)
 | [],e=>↑(.nx,e) |d::r,e=>(mG ix d e).bind λI=>(g I).bind λq=>match q.1 with | .nx=>gI ix g r q.2 | .ct=>gI ix g r q.2 | .bk=>↑(.nx,q.2) | .rt d=>↑(.rt d,q.2) | .rf ds=>↑(.rf ds,q.2) | .r2 ds=>↑(.r2 ds,q.2) | .xc c=>↑(.xc c,q.2) | .ra k ps=>↑(.ra k ps,q.2)
@[simp] def qa(ix:ic)(fi:FI)(g:FS):FS:=λe=>(fi e).bind λr=>gI ix g r.1 r.2
def CT{K:kf}{W:Addr->Prop}{H:Hp}:∀(ix:ic) (ds:k4) (vs:kv) (env:aP) (σ:St) (Q:St->Hp->Prop),Ok K G H0 W env σ H->aL K H (Ow G W) ds vs->ds.length=ix.length ->
  (∀I,Ok K G H0 W (wm ix ds env) I H->Q I H)->iN ix vs σ H Q
 | [],ds,vs,env,σ,Q,ok,r,hl,k=>by
   cases r with
   |nil=>exact⟨rfl,k σ ok⟩ |cons _ _=>cases hl
 |i::ix,ds,vs,env,σ,Q,ok,r,hl,k=>by
   cases r with
   |nil=>cases hl
   | @cons d v ds vs r0 r =>
     refine⟨v,vs,rfl,?_⟩;exact CT ix ds vs _ _ Q (ok.set r0) r (sj hl) k
def tu  : jC X [] (iN []):=G9
variable{es:j0}
def lb(I:eJ Nn X)(h:jC X es (iN ix))(D:‹Nn[i]?=↑x›)(S:‹(assignEach (.Name x pos::es) X.env).map (·.2)=assign (.Name x pos) X.env::(assignEach es X.env).map (·.2)›):jC X (.Name x pos::es) (iN (i::ix)):=GA (vV (I.t D).nd (I.t D).n (I.t D).l (I.t D).f) h S
def y9(hi:kE X G H0 (.Tuple es k p1) a fi)(h:jC X es (iN ix))(U:gA X G H0 body u)(V:PassesOwn (model X.prog X.w) X.A X.env X.xe:=by passes_own)(I:‹X.calm=true›)(Y:‹(assignEach es X.env).length=ix.length›)(D:‹(assignEach es X.env).findIdx? (·.1)=none›)(Z:∀x,foldedSetIterable a X.env x=pure x:=by intro _;rfl):eR X G H0 (.For (.Tuple es k p1) a body [] pos) (qa ix fi u) :=
 CN (b:=mG ix) (L:=gI ix u) hi (Bz (n:=ix.length) I h Y D) U (λ{W env env' σ H d x Q} ok r e k=>by
  unfold mG at e;split at e;case h_2=>cases e
  split at e;case isFalse=>cases e
  rename_i S;cases e;cases r with
  | @tup a vs _ ht rr=>exact⟨a,vs,rfl,.inl (.inl ht),by rw[<-rr.length];exact S,CT ix _ vs _ σ _ ok rr S k⟩) (λ_=>rfl) (λ_ _ _=>rfl) V I Z
def si(hi:iX X G H0 (.Tuple es k p1) a fi)(h:jC X es (iN ix))(I:gA X G H0 body u)(S:PassesOwn (model X.prog X.w) X.A X.env X.xe:=by passes_own)(U:‹X.calm=true›)(V:‹(assignEach es X.env).length=ix.length›)(D:‹(assignEach es X.env).findIdx? (·.1)=none›)(Y:∀x,foldedSetIterable a X.env x=pure x:=by intro _;rfl):eR X G H0 (.For (.Tuple es k p1) a body [] pos) (qa ix fi u):=y9 hi.dj h I S U V D Y
def iO(F:FA)(g:FE):FA:=λe=>(F e).bind λr=>(g r.2).bind λq=>match q.1 with
 | .int k=>if cI (r.1.length*k.toNat)/\iW (-(2 ^ 62)) (2 ^ 62) k then ↑((List.replicate k.toNat r.1).flatten,q.2) else none
 |_=>none
def aL.rep{K:kf}{H:Hp}{O:Addr->Prop}{ds:k4}{vs:kv}(r:aL K H O ds vs):∀k:Nat,aL K H O (List.replicate k ds).flatten (List.replicate k vs).flatten
 |0=>.nil |k+1=>by
   exact r.append (aL.rep r k)
theorem CU(i:fW X G H0 a F)(j:aS X G H0 b g):fW X G H0 (.BinOp a .Mult b pos) (iO F g):=⟨(ri HX i.out j.out).imp λσ H Q m=>by
 obtain⟨W,env,d,env',ok,q,k⟩:=m;unfold iO at q;cases e1:F env with
 |none=>rw[e1] at q;cases q
 |some r =>
   obtain⟨ds,env1⟩:=r;rw[e1,ac] at q;cases e2:g env1 with
   |none=>rw[e2] at q;cases q
   |some r2 =>
     obtain⟨J,Z⟩:=r2;rw[e2,ac] at q;dsimp only at q;split at q;case h_2=>cases q
     rename_i kk;split at q;case isFalse=>cases q
     rename_i p;obtain⟨s,t,u⟩:=p;cases q;refine⟨W,env,_,_,ok,e1,λW1 l vs H1 c D e v w f=>⟨W1,env1,_,_,D,e2,λx v2 H2 s2 I p2=>?_⟩⟩;have S:Step W H W1 H1:=⟨c.keep,λa h=>c.ws a (.inl h)⟩;have U:aL X.K H1 (Ow G W1) ds vs:=f.mono (λ_ _ h=>h) λa us o h=>⟨⟨o.1,λz=>o.2 (.inl z)⟩,h⟩;have V:=D.reps s2 U;have Y:H2 l=↑(.lst vs):=s2.keep l _ w v;cases p2;refine⟨l,kk,vs,rfl,rfl,Y,by lia,by lia,?_,λn y=>?_⟩
     ·rw[<-f.length];exact d7 s (by rw[gz];decide)
     ·obtain⟨h1,h2,A,B,C,E⟩:=yr I (aL.rep V kk.toNat) y
      exact k x n _ _ ((S.trans s2).trans h1) h2 A B C E⟩
section
variable {X:Cx} {G:Gd} {H0:Hp} {a b c e:Expr} {es:j0} {f g:FE} {F:FA} {f2:kF} {u:FS} {pos p' p1 pos1:Pos} {x:Str} {i:Nat}
variable {CX:hY} {k:Nat} {fa:Addr} {fd:FuncData} {ps:h6} {mF2:k4->Option (List k4)} {E:XK}
end
variable{wr:ia}{pins:kl}{h2:Heap}
def Inv.tupled{tk:Nat}{T:Addr}{us:kn}(I:Inv X pins σ H s)(U:∀b∈wr,dX X pins H b)(hT:s.heap.objs.size<=T)(i:T∉wr)(k:∀b o,b∉wr->s.heap.get? b=↑o->h2.get? b=↑o)(Z:h2.IsTuple T us)(a:aN vs us.toList)(d:vs.length<=sizeLine) :
  Inv X pins σ (aX H T (.tup vs)) { s with heap:=h2,toks:=tk }:=by
 have V:H T=none:=I.hok.fresh hT;have Y:∀b u,H b=↑u->b∉wr:=λb u e z=>by rw[(U b z).1] at e;cases e
 have neT:∀b o,s.heap.get? b=↑o->b≠T:=λb o e=>bu (bn (bj e) hT);refine I.step (g':=s.gens) (d':=s.drawn) (ch:=wr) (λb D=>⟨(U b D).2.2.2.1,(U b D).2.1,(U b D).2.2.2.2.1,(U b D).2.2.2.2.2⟩) (λb o _ _ S e _=>k b o S e) (λb o _ _ S e _=>⟨o.slots,k b o S e⟩)
  (λb o _ e n=>by rw[i4 (neT b o e)];exact n) (λb o S e=>⟨o,k b o S e⟩) (λb xs e=>by rw[i4 (ql e V)];exact e) (λb o u e=>by rw[i4 (ql e V)];exact e)
  (λb ps e=>⟨#[],by rw[i4 (ql e V),e];simp⟩) (λm f=>?_) (λb u e=>?_) I.bare
 ·obtain⟨o,es,g,h,r⟩:=f
  exact⟨o,es,g,k _ o (λz=>(U _ z).2.1 rfl) h,r⟩
 ·by_cases D:b=T
  ·subst D
   rw[md] at e;cases e;exact⟨d,us.toList,a,by rw[Array.toArray_toList];exact Z⟩
  ·rw[i4 D] at e
   refine(I.hok b u e).stay (λc v S q=>k c v ?_ q) (λc q=>by rw[i4 (ql q V)];exact q) λc xs q=>by rw[i4 (ql q V)];exact q
   rcases S with z |z
   ·rw[z];exact Y b u e
   ·exact Y c _ z
def Inv.turnedL{tk:Nat}(I:Inv X pins σ H s)(S:∀b∈wr,dX X pins H b)(k:∀b o,b∉wr->s.heap.get? b=↑o->h2.get? b=↑o) :
  Inv X pins σ H { s with heap:=h2,toks:=tk }:=by
 have U:∀b u,H b=↑u->b∉wr:=λb u e z=>by rw[(S b z).1] at e;cases e
 refine I.step (g':=s.gens) (d':=s.drawn) (ch:=wr) (λb V=>⟨(S b V).2.2.2.1,(S b V).2.1,(S b V).2.2.2.2.1,(S b V).2.2.2.2.2⟩) (λb o _ _ D e _=>k b o D e) (λb o _ _ D e _=>⟨o.slots,k b o D e⟩)
  (λ_ _ _ _ n=>n) (λb o D e=>⟨o,k b o D e⟩) (λ_ _ e=>e) (λ_ _ _ e=>e) (λb ps e=>⟨#[],by rw[e];simp⟩) (λm Y=>?_) (λb u e=>?_) I.bare
 ·obtain⟨o,es,Z,a,r⟩:=Y
  exact⟨o,es,Z,k _ o (λz=>(S _ z).2.1 rfl) a,r⟩
 ·refine(I.hok b u e).stay (λc v D q=>k c v ?_ q) (λ_ q=>q) λ_ _ q=>q
  rcases D with z |z
  ·rw[z];exact U b u e
  ·exact U c _ z
def x_(go:Nat->Hp->Prop)(pr:Nat->Hp->kv->Prop)(D:Nat->Hp->Prop):It :=
 ⟨go,λi H x H'=>∃t vs,H t=none/\x=.ref t/\H'=aX H t (.tup vs)/\pr i H vs,D⟩
variable{it:Addr}
def CV{Y:Nat->Heap->Prop}{go:Nat->Hp->Prop}{pr:Nat->Hp->kv->Prop}{S:Nat->Hp->Prop}(mem:it∈fp)(obj:∀i h,Y i h->∀b∈fp,∃o,h.get? b=↑o/\∀v,o.data≠.cell v)(keep:∀i h h',Y i h->(∀b∈fp,∀o,h.get? b=↑o->h'.get? b=↑o)->Y i h')(y:∀(X:Cx),X.prog=P->X.w=w->X.K=K->X.A.handled=none->∀(i:Nat) (pins:kl) (s:Shared) (σ:St) (H:Hp),Inv X pins σ H s->(∀b∈fp,dX X pins H b)->Y i s.heap->(go i H\/S i H) ->
   ∃Z wr n Pt St a j,WalksT P w X.A it Z wr n Pt St a/\St j s.heap/\(∀b∈wr,b∈fp)/\(∀h,St (j+1) h->Y (i+1) h)/\(go i H->j<n)/\(S i H->j=n) /\
    (go i H->∀D,Pt j D->∃vs,aN vs D.toList/\vs.length<=sizeLine/\pr i H vs))(self:∀(A:Around) (i:Nat) (s:Shared) (Q:Value->Shared->Prop) (E:Value->Shared->Prop),Y i s.heap->Q (.ref it) s->wpAny (model P w) A (pyIter (.ref it)) Q E s) :
  iJ P w K (.Tuple es k pos) (x_ go pr S) fp it Y where
 mem:=mem
 obj:=obj
 keep:=keep
 item:=by
  intro X hP q r t i pins s σ H E I d st f;obtain⟨Z,wr,n,Pt,St,a,j,W,u,c,g,lt,_,x⟩:=y X hP q r (I.ok.hd t) i pins s σ H I d st (.inl f);refine W.item j s _ _ (lt f) u λT D h1 tk z hT B l kk=>⟨_,rfl,?_⟩;obtain⟨vs,C,F,G⟩:=x f D z;have m:T∉wr:=W.apart j T h1 l;refine W.go es k pos j T _ _ _ l λh2 s2 p=>?_;refine⟨.ref T,aX H T (.tup vs),?_,rfl,⟨T,vs,I.hok.fresh hT,rfl,rfl,G⟩,g h2 s2,λb U=>?_⟩
  ·exact I.tupled (λb U=>d b (c b U)) hT m (λb o U e=>p b o U (kk b o U e)) (B.at λo e=>p T o m e) C F
  ·obtain⟨o,J,_⟩:=obj i _ st b U
   rw[i4 (bu (bn (bj J) hT))];exact(d b U).1
 done:=by
  intro X hP q r t i pins s σ H E I d st f;obtain⟨Z,wr,n,Pt,St,a,j,W,u,c,g,_,L,_⟩:=y X hP q r (I.ok.hd t) i pins s σ H I d st (.inr f);cases L f;exact W.done s _ _ u λh1 tk kk=>⟨rfl,I.turnedL (λb U=>d b (c b U)) kk⟩
 self:=self
variable{A:Around}{l:Addr}
theorem Js(I:A.handled=none)(S:l≠it)(c:Nat)(its:kn) :
  Draws P w A.in1 it [it,l] (c+its.size) (λj x=>∃i,j=c+i/\its[i]?=↑x) (λj h=>∃i,j=c+i/\i<=its.size/\h.IsListIter it l i/\h.IsList l its) where
 live:=λj h ⟨i,_,_,⟨o,e,_⟩,_⟩=>⟨o,e⟩
 frame:=λj h h' ⟨i,e,hi,a,b⟩ k=>⟨i,e,hi,a.at λo e=>k it ⋯ o e,b.at λo e=>k l ⋯ o e⟩
 item:=λj s Q E hj ⟨i,e,hi,a,b⟩ hQ=>by
  subst e;have hi:i<its.size:=by lia
  refine wpAny_nextOf_list_item a b (x:=its[i]) (by simp[hi]) λh' U D=>?_;exact hQ _ h' s.toks ⟨i,rfl,by simp[hi]⟩ ⟨i+1,by lia,hi,U,b.extBut D.extBut S⟩ D
 done:=λs Q E ⟨i,e,hi,a,b⟩ hE=>by
  have hi:i=its.size:=by lia
  subst hi;exact wpAny_nextOf_list_end I a b ⋯ hE
def y0(K:kf)(a:Addr)(c:Nat):It :=
 x_ (λi H=>∃xs x,dH K H a xs/\xs[i]?=↑x) (λi H vs=>∃y,vs=[↥(c+i:Nat),y]/\∀xs,dH K H a xs->xs[i]?=↑y) (λi H=>∃xs,dH K H a xs/\xs.length=i)
theorem CW(a it e:Addr)(c:Nat)(O:e≠it) :
  iJ P w K (.Tuple es k pos) (y0 K a c) [e,it] e (λi h=>(∃S,IsEnum h e it (c+i:Nat) S)/\h.IsListIter it a i):=by
 refine CV ⋯ (λi h st b F=>?_) (λi h h' st kk=>?_) ?_ λA i s Q E st W=>?_
 ·obtain⟨⟨S,U⟩,o,ho,_,hd⟩:=st
  rcases b6.mp F with z |z
  ·subst z
   exact⟨_,U,λv z=>by cases (show Data.fields _=Data.cell v from z)⟩
  ·cases dc.mp z
   exact⟨o,ho,λv z=>by rw[hd] at z;cases z⟩
 ·exact⟨st.1.imp λS U=>kk e ⋯ _ U,st.2.at λo x=>kk it ⋯ o x⟩
 ·intro X hP hw hK hh i pins s σ H I hf st Z
  subst hP hw hK;obtain⟨⟨S,U⟩,d⟩:=st;have G:∃xs,dH X.K H a xs/\i<=xs.length:=by
   rcases Z with⟨xs,x,q,f⟩ | ⟨xs,q,f⟩
   ·exact⟨xs,q,lu (aj.mp f).1⟩
   ·exact⟨xs,q,Nat.le_of_eq f.symm⟩
  obtain⟨xs,q,J⟩:=G;obtain⟨its,R,p,hz⟩:=I.list q;have hl:=R.length;obtain⟨ol,Y,g,_⟩:=id p.isList;obtain⟨oi,j,l,_⟩:=id d;have L:a≠it:=λz=>by
   subst z;rw[Y] at j;cases j;rw[g] at l;exact absurd l (by decide)
  have M:e≠a:=λz=>by
   subst z;rw[U] at Y;cases Y;exact absurd (show Value.type "enumerate" = Value.type "list" from g) (by decide)
  have D:=Js (P:=X.prog) (w:=X.w) hh L c its.toArray;refine⟨_,_,_,_,_,_,c+i,WalksT.enumerateD D e O (by simp[O,M]) ⋯,⟨⟨S,U⟩,i,rfl,by simpa[<-hl] using J,d,p.isList⟩,λb F=>F,λh st=>?_,λZ=>?_,λhs=>?_,λZ T hv=>?_⟩
  ·obtain⟨⟨m,N⟩,n,e',_,r,_⟩:=st
   have:n=i+1:=by lia
   subst this;exact⟨⟨m,N⟩,r⟩
  ·obtain⟨ys,y,B,V⟩:=Z
   rw[I.list_inj B q] at V;have:=(aj.mp V).1;simp
   lia
  ·obtain⟨ys,B,V⟩:=hs
   rw[I.list_inj B q] at V;simp
   lia
  ·obtain⟨t,x,⟨n,e',f⟩,rfl⟩:=hv
   have:n=i:=by lia
   subst this;obtain⟨ys,y,B,V⟩:=Z;rw[I.list_inj B q] at V;obtain⟨u,hu,ru⟩:=R.get V;have:u=x:=by
    have C:its[n]?=↑x:=by simpa using f
    rw[hu] at C;cases C;rfl
   subst this;exact⟨[↥(c+n:Nat),y],.cons ⟨t,rfl⟩ (.cons ru .nil),by show 2<=sizeLine;rw[gz];decide,y,rfl,λzs G=>by rw[I.list_inj G q];exact V⟩
 ·obtain⟨⟨S,U⟩,_⟩:=st
  exact yd U W
def y3(K:kf)(a b:Addr):It :=
 x_ (λi H=>∃xs ys x y,dH K H a xs/\dH K H b ys/\xs[i]?=↑x/\ys[i]?=↑y) (λi H vs=>∃x y,vs=[x,y]/\(∀xs,dH K H a xs->xs[i]?=↑x)/\∀ys,dH K H b ys->ys[i]?=↑y)
  (λi H=>∃xs ys,dH K H a xs/\dH K H b ys/\min xs.length ys.length=i)
structure CY (z ti to i1 i2:Addr):Prop where
 a1:ti≠z
 a2:to≠z
 a3:i1≠z
 a4:i2≠z
 a5:ti≠to
 a6:ti≠i1
 a7:ti≠i2
 a8:to≠i1
 a9:to≠i2
 aA:i1≠i2
variable{h:Heap}{o:Int->Int->Int}
def Jt{a b:Addr}{o o':Obj}(e:h.get? a=↑o)(e':h.get? b=↑o')(n:o.cls≠o'.cls):a≠b:=λz=>by
 subst z;rw[e] at e';cases e';exact n rfl
theorem Ju(a b z ti to B C:Addr)(Y:CY z ti to B C) :
  iJ P w K (.Tuple es k pos) (y3 K a b) [z,ti,to,B,C] z (λi h=>IsZip h z ti to .none/\IsPair h ti (.ref B) (.ref C)/\(∃u v,IsPair h to u v)/\h.IsListIter B a i/\h.IsListIter C b i):=by
 refine CV ⋯ (λi h st c F=>?_) (λi h h' st kk=>?_) ?_ λA i s Q E st hQ=>?_
 ·obtain⟨Z,h1,⟨u,v,h2⟩,⟨o3,j,_,d3⟩,o4,m,_,d4⟩:=st
  simp at F;rcases F with rfl |rfl |rfl |rfl |rfl
  ·exact⟨_,Z,λv q=>by cases (show Data.fields _=Data.cell v from q)⟩
  ·exact⟨_,h1,λv q=>by cases (show Data.seq _ _=Data.cell v from q)⟩
  ·exact⟨_,h2,λv q=>by cases (show Data.seq _ _=Data.cell v from q)⟩
  ·exact⟨_,j,λv q=>by rw[d3] at q;cases q⟩
  ·exact⟨_,m,λv q=>by rw[d4] at q;cases q⟩
 ·obtain⟨Z,h1,⟨u,v,h2⟩,j,m⟩:=st
  exact⟨kk z ⋯ _ Z,kk ti ⋯ _ h1,⟨u,v,kk to ⋯ _ h2⟩,j.at λo e=>kk B ⋯ o e,m.at λo e=>kk C ⋯ o e⟩
 ·intro X hP hw hK hh i pins s σ H I hf st G
  subst hP hw hK;obtain⟨Z,h1,⟨u,v,h2⟩,j,m⟩:=st;have J:∃xs ys,dH X.K H a xs/\dH X.K H b ys/\i<=xs.length/\i<=ys.length:=by
   rcases G with⟨xs,ys,x,y,q,d,V,r⟩ | ⟨xs,ys,q,d,V⟩
   ·exact⟨xs,ys,q,d,lu (aj.mp V).1,lu (aj.mp r).1⟩
   ·exact⟨xs,ys,q,d,by lia,by lia⟩
  obtain⟨xs,ys,q,d,al,ab⟩:=J;obtain⟨its,rv,p,_⟩:=I.list q;obtain⟨its',L,p',_⟩:=I.list d;have hl:=rv.length;have an:=L.length;obtain⟨ol,f,g,_⟩:=id p.isList;obtain⟨ap,S,U,_⟩:=id p'.isList;obtain⟨o3,M,N,_⟩:=id j;obtain⟨o4,O,R,_⟩:=id m;have t:∀ {l o T c o'},s.heap.get? l=↑o->o.cls=.type "list"->s.heap.get? c=↑o'->o'.cls=.type T->T ≠ "list"->l≠c:=λe1 e2 e3 e4 n=>Jt e1 e3 (by rw[e2,e4];intro z;cases z;exact n rfl);have D:ZipApart z ti to B C a b:=⟨Y.a1,Y.a2,Y.a3,Y.a4,Y.a5,Y.a6,Y.a7,Y.a8,Y.a9,Y.aA,t (T:="zip") f g Z rfl (by decide),t (T:="tuple") f g h2 rfl (by decide),t f g M N (by decide),t f g O R (by decide),t (T:="zip") S U Z rfl (by decide),t (T:="tuple") S U h2 rfl (by decide),t S U M N (by decide),t S U O R (by decide)⟩;refine⟨_,_,_,_,_,_,i,WalksT.zip2 hh z ti to B C a b D its.toArray its'.toArray,⟨Z,h1,⟨u,v,h2⟩,j,m,p.isList,p'.isList⟩,λc F=>?_,λh st=>?_,λG=>?_,λhs=>?_,λG ag hv=>?_⟩
  ·simp at F ⊢
   rcases F with rfl |rfl |rfl |rfl <;> simp
  ·obtain⟨Z,h1,h2,j,m,_,_⟩:=st
   exact⟨Z,h1,h2,j,m⟩
  ·obtain⟨W,aa,x,y,q1,q2,V,r⟩:=G
   rw[I.list_inj q1 q] at V;rw[I.list_inj q2 d] at r;have:=(aj.mp V).1;have:=(aj.mp r).1;simp
   lia
  ·obtain⟨W,aa,q1,q2,V⟩:=hs
   rw[I.list_inj q1 q,I.list_inj q2 d] at V;simp
   lia
  ·obtain⟨W,aa,x,y,q1,q2,V,r⟩:=G
   rw[I.list_inj q1 q] at V;rw[I.list_inj q2 d] at r;obtain⟨ux,uy,eu,ew,rfl⟩:=hv;obtain⟨u1,e1,r1⟩:=rv.get V;obtain⟨u2,e2,r2⟩:=L.get r;have t1:u1=ux:=by
    have z:its[i]?=↑ux:=by simpa using eu
    rw[e1] at z;cases z;rfl
   have t2:u2=uy:=by
    have z:its'[i]?=↑uy:=by simpa using ew
    rw[e2] at z;cases z;rfl
   subst t1;subst t2;exact⟨[x,y],.cons r1 (.cons r2 .nil),by show 2<=sizeLine;rw[gz];decide,x,y,rfl,λzs J=>by rw[I.list_inj J q];exact V,λzs J=>by rw[I.list_inj J d];exact r⟩
 ·exact wpAny_pyIter_zip st.1 hQ
abbrev jI(h:Heap)(l:Addr):Heap:=h.push { cls:=.type "list_iterator",data:=.fields #[.ref l,.int 0 0] }
abbrev hF(h:Heap)(l:Addr):Heap:=(jI h l).push { cls:=.type "enumerate",data:=.fields #[.none,.bool false,.ref h.objs.size,rawInt 1,.none,.none] }
def Jv(v:Value)(t:Tok):checkTypeCall "enumerate" ⟨[v],[("start",.int 1 t)]⟩=pure ():=by kernel_rfl
def Jw(v:Value)(t:Tok):checkBuiltinCall "enumerate.__new__" ⟨[.type "enumerate",v],[("start",.int 1 t)]⟩=pure ():=by kernel_rfl
def Jx(l:Addr)(D:kn)(n:Nat)(S:Option Addr)(sl:Array h8)(t:Tok) :
  Meets (Builtin.«enumerate.__new__» ⟨[.type "enumerate",.ref l],[("start",.int 1 t)]⟩) (λ_ R s=>s.heap.get? l=↑⟨.type "list",S,.seq D n,sl⟩/\R (.ok (.ret (.ref (jI s.heap l).objs.size))) { s with heap:=hF s.heap l }) :=
 .of_wp λprog w A R s h=>by
  obtain⟨Y,g,d,tk,os⟩:=s;obtain⟨I,h⟩:=h;have U:=sub_enumerate;have V:Heap.IsList (Shared.heap ⟨Y,g,d,tk,os⟩) l D:=⟨_,I,rfl,n,rfl⟩
  wp_walk using AutoSeq1.wpAny_loadPart' I
  refine wpAny_stack_any λst=>cz ?_;split
  ·rename_i c _ _ _ _ _
   cases (c==Value.type "enumerate") <;> (refine au (wpAny_of_eq (a:=(Value.ref l,↑(Value.int 1 t))) (by rfl) ?_);wp_walk using AutoSeq1.wpAny_loadPart' I,kr V;exact⟨_,rfl,h⟩)
  ·refine au (wpAny_of_eq (a:=(Value.ref l,↑(Value.int 1 t))) (by rfl) ?_);wp_walk using AutoSeq1.wpAny_loadPart' I,kr V;exact⟨_,rfl,h⟩
variable{t:Tok}
theorem Jy{v x:Value}:Meets (Builtin.«object.__init__» ⟨[v,x],[("start",.int 1 t)]⟩) (λ_ R s=>s.TypeIs v "enumerate"/\R (.ok (.ret .none)) s) :=
 .of_wp λprog w A R s D=>by
  obtain⟨hT,h⟩:=D;have I:=F.called_enumerate.made;have S:=F.called_enumerate.init.lookup;repeat (any_goals (first |assumption |wp_step))
  exact⟨_,rfl,h⟩
theorem Jz(a b:Value)(t:Tok):argsOk "object.__init__" ⟨[a,b],[("start",.int 1 t)]⟩:=by
 unfold argsOk;rw[signature?_of (id:="object.__init__") (n:=['_','_','t','i','n','i','_','_']) (o:=['t','c','e','j','b','o']) (by kernel_rfl) F.owner_object];kernel_rfl
variable{Q E:Value->Shared->Prop}{prog:Program}
theorem J0{D:kn}(a:s.heap.IsList l D)(h:Q (.ref (jI s.heap l).objs.size) { s with heap:=hF s.heap l }):wpAny (model prog w) A (call (.type "enumerate") [.ref l] [("start",.int 1 t)]) Q E s:=by
 obtain⟨⟨c,S,b,sl⟩,d,U,n,hd⟩:=a;replace U:c=.type "list":=U;replace hd:b=.seq D n:=hd;subst U hd;have V:=F.called_enumerate.made;have Z:=F.called_enumerate.sub;have e:=Jv (.ref l) t;refine m6 (codeAny_of_tree (show wpAny _ _ (callAny (.type "enumerate") _) _ _ _ from cz ⟨Code.quiet_builtin _ (by decide +kernel),qf F.entry_type_call ?_⟩));repeat (any_goals (first |assumption |wp_step))
 refine ji (l4 (R:=λr I=>r=.ok (.ret (.ref (jI s.heap l).objs.size))/\I={ s with heap:=hF s.heap l }) F.called_enumerate.plain F.entry_enumerate_new (wpAny_of_eq (Jw _ t) (Jx l D n S sl t prog w A.in1 (λr I=>r=.ok (.ret (.ref (jI s.heap l).objs.size))/\I={ s with heap:=hF s.heap l }) s ⟨d,rfl,rfl⟩))) λr I f=>?_;obtain⟨rfl,rfl⟩:=f;have hT:Shared.TypeIs { s with heap:=hF s.heap l } (.ref (jI s.heap l).objs.size) "enumerate":=⟨_,cx _ rfl,rfl⟩;have g:=F.called_enumerate.init.lookup;have i:=F.called_enumerate.init.bind (.ref (jI s.heap l).objs.size);repeat (any_goals (first |assumption |wp_step))
 refine ji (l4 (R:=λr s2=>r=.ok (.ret .none)/\s2={ s with heap:=hF s.heap l }) F.called_enumerate.init.plain F.entry_object_init (F.called_enumerate.init.check _ _ _ _ _ _ _ _ hT (Jz _ _ t) (Jy prog w A.in1 (λr s2=>r=.ok (.ret .none)/\s2={ s with heap:=hF s.heap l }) _ ⟨hT,rfl,rfl⟩))) λj s2 Y=>?_;obtain⟨rfl,rfl⟩:=Y;repeat (any_goals (first |assumption |wp_step))
theorem J1(n:Nat):CY (n+4) (n+2) (n+3) n (n+1):=by
 have h:∀i j:Nat,i≠j->n+i≠n+j:=λi j z=>by lia
 exact⟨h 2 4 (by decide),h 3 4 (by decide),h 0 4 (by decide),h 1 4 (by decide),h 2 3 (by decide),h 2 0 (by decide),h 2 1 (by decide),h 3 0 (by decide),h 3 1 (by decide),h 0 1 (by decide)⟩
variable{c:Nat}
theorem oM(h:c∈[n+1,n]):n<=c:=by simp at h;lia
theorem y4(h:c∈[n+4,n+2,n+3,n,n+1]):n<=c:=by simp at h;lia
def CZ:bootBuiltins "enumerate" = ↑(.type "enumerate"):=by decide +kernel
def J2:bootBuiltins "zip" = ↑(.type "zip"):=by decide +kernel
def yA(K:kf)(c:Nat)(ta:TA):TI:=λσ H R=>ta σ H λvs H1=>∃l xs,vs=[.ref l]/\dH K H1 l xs/\R (y0 K l c) H1
def yB(K:kf)(ta:TA):TI:=λσ H R=>ta σ H λvs H1=>∃l l' xs ys,vs=[.ref l,.ref l']/\dH K H1 l xs/\dH K H1 l' ys/\R (y3 K l l') H1
variable{p:Pos}{ta:TA}
def J4(Y:Bn X "enumerate")(b:PA X [a] ta)(d:‹starEach [a] X.env=[(false,eval a X.env)]›) :
  PI X (.Tuple es k p1) (.Call (.Name "enumerate" p) [a] [] pos) (yA X.K 0 ta):=by
 intro pins s σ H R I h;refine Call_ (xr I Y.g Y.m CZ (ib (bK (b pos pins s σ H _ I h) λus D f=>?_) d rfl));obtain⟨vs,H1,S,i,j⟩:=f;obtain⟨l,xs,e,n,q⟩:=j;subst e;cases i with
 |cons r rr =>
   cases rr;cases r;obtain⟨its,u,pl,v⟩:=S.list n;refine call_enumerate_list pl.isList λh' Z V o t=>yd Z ?_;refine⟨D.heap.objs.size+1,[D.heap.objs.size+1,D.heap.objs.size],_,_,H1,rfl,S.kept (t':=D.toks) t,CW l _ _ 0 (Nat.succ_ne_self _),⟨⟨.none,Z⟩,V⟩,λc U=>?_,q⟩;have U:D.heap.objs.size<=c:=oM U;exact S.fpOk U (S.hok.fresh U)
variable{p2 kp:Pos}
def J6(Z:Bn X "enumerate")(d:PA X [a] ta)(f:‹starEach [a] X.env=(false,eval a X.env)::starEach [] X.env›)(V:‹(backTo pos (starEach [a] X.env)).any (·.1)=false›) :
  PI X (.Tuple es k p1) (.Call (.Name "enumerate" p) [a] [⟨some "start",.Constant ↥1 j p2,kp⟩] pos) (yA X.K 1 ta):=by
 intro pins s σ H R I h;refine iu (xr I Z.g Z.m CZ ?_);refine PySem.W.callWith_of (P:=λ_=>True) (by rw[V];rfl) (λ_ _=>⟨Keeper.machine,.inr (.inl rfl),PySem.W.Looks.of_pure rfl⟩) (evalArgs_kw2 rfl (bK (d pos pins s σ H _ I h) λus n Y=>?_) f);obtain⟨vs,H1,u,v,w⟩:=Y;refine bK (Hu (nm:=some "start") (kpos:=kp) (nF (i:=1) (j:=j) (pos:=p2)) Ht pos pins n σ H1 (λws H2=>H2=H1/\ws=[↥1]) u ⟨rfl,rfl⟩) λws s2 Y=>?_;obtain⟨B,H2,U,x,y,z⟩:=Y;refine⟨trivial,?_⟩;subst y z;obtain⟨l,xs,e,A,q⟩:=w;subst e;cases v with
 |cons r rr =>
   cases rr;cases r;cases x with
   |cons r' rr' =>
   obtain⟨t,rfl⟩:=r';obtain⟨its,C,pl,E⟩:=U.list A;refine J0 (t:=t) pl.isList ?_;have b:IsEnum (hF s2.heap l) (jI s2.heap l).objs.size s2.heap.objs.size 1 .none:=cx _ rfl;have D:(jI s2.heap l).objs.size=s2.heap.objs.size+1:=jb ..;refine yd b ?_;refine⟨(jI s2.heap l).objs.size,[(jI s2.heap l).objs.size,s2.heap.objs.size],_,_,H2,rfl,U.kept (t':=s2.toks) (λc o e=>aq _ (aq _ e)),CW l _ _ 1 (by rw[D];exact Nat.succ_ne_self _),⟨⟨.none,b⟩,⟨_,aq _ (cx _ rfl),rfl,rfl⟩⟩,λc S=>?_,q⟩;have S:s2.heap.objs.size<=c:=by rw[D] at S;exact oM S
   exact U.fpOk S (U.hok.fresh S)
def C_(d:Bn X "zip")(i:PA X [a,b] ta)(j:‹starEach [a,b] X.env=[(false,eval a X.env),(false,eval b X.env)]›)(S:‹starEach [b] X.env=[(false,eval b X.env)]›) :
  PI X (.Tuple es k p1) (.Call (.Name "zip" p) [a,b] [] pos) (yB X.K ta):=by
 intro pins s σ H R I h;refine Call_ (xr I d.g d.m J2 (ib (bK (i pos pins s σ H _ I h) λus D n=>?_) (by rw[j,S]) (by rw[S];rfl)));obtain⟨vs,H1,U,o,t⟩:=n;obtain⟨l,l',xs,ys,e,u,Y,q⟩:=t;subst e;cases o with
 |cons r rr =>
   cases rr with
   |cons r' rr =>
   cases rr;cases r;cases r';obtain⟨its,E,pl,F⟩:=U.list u;obtain⟨its',v,Z,w⟩:=U.list Y;refine call_zip_2 pl.isList Z.isList λh' f x y z A B C=>wpAny_pyIter_zip f ?_;refine⟨_,[D.heap.objs.size+4,D.heap.objs.size+2,D.heap.objs.size+3,D.heap.objs.size,D.heap.objs.size+1],_,_,H1,rfl,U.kept (t':=D.toks) C,Ju l l' _ _ _ _ _ (J1 _),⟨f,x,⟨_,_,y⟩,z,A⟩,λc V=>?_,q⟩;have V:D.heap.objs.size<=c:=y4 V;exact U.fpOk V (U.hok.fresh V)
def t6:Nat->k4->k4
 |_,[]=>[] |c,d::r=>.tup [↥c,d]::t6 (c+1) r
def fG:k4->k4->k4
 |d::r,d'::r'=>.tup [d,d']::fG r r' |_,_=>[]
theorem Da:∀(ds:k4) (c i:Nat),(t6 c ds)[i]?=ds[i]?.map λd=>.tup [↥(c+i:Nat),d]
 | [],c,i=>by simp[t6]
 |d::r,c,0=>by simp[t6] |d::r,c,i+1=>by
   simp only[t6,af];rw[Da r (c+1) i];rw[show c+1+i=c+(i+1) by lia]
def Db:∀(ds:k4) (c:Nat),(t6 c ds).length=ds.length
 | [],_=>rfl |d::r,c=>by simp[t6,Db r]
def Dc:∀(ds es:k4) (i:Nat) (p:D),(fG ds es)[i]?=↑p->∃d e,ds[i]?=↑d/\es[i]?=↑e/\p=.tup [d,e]
 |d::r,e::r',0,p,h=>by simp[fG] at h;exact⟨d,e,by simp,by simp,h.symm⟩ |d::r,e::r',i+1,p,h=>by
   exact Dc r r' i p h
def Dd:∀(ds es:k4),(fG ds es).length=min ds.length es.length
 | [],es=>by simp[fG] |d::r,[]=>by simp[fG] |d::r,e::r'=>by simp[fG,Dd r r']
@[simp] def iY(c:Nat)(ds:k4):Option k4:=match ds with | [.lst ds]=>↑(t6 c ds) |_=>none
@[simp] def lD(ds:k4):Option k4:=match ds with | [.lst ds,.lst es]=>↑(fG ds es) |_=>none
def De{t:Addr}(r:aL K H' (Ow G W') ds vs)(D:H' t=none):bB K (aX H' t (.tup vs)) (Ow G W') (.tup ds) (.ref t):=by
 refine .tup (md ..) (r.mono (λa us e=>by rw[i4 (ql e D)];exact e) λa us o h=>⟨o,?_⟩);exact h.keep λo e=>by rw[i4 (ql e D)];exact e
def J8(c:Nat)(ok:Ok X.K G H0 W env σ H)(h:gQ X.K H (Ow G W) l vs)(r:aL X.K H (Ow G W) ds vs):xR X.K G (y0 X.K l c) W H (t6 c ds) where
 go:=λW' H' i d st e=>by
  rw[Da] at e;cases e0:ds[i]? with
  |none=>rw[e0] at e;cases e
  |some d0 =>
    rw[e0] at e;cases e;obtain⟨v,D,I⟩:=(ok.reps st r).get e0;have h':=(ok.lsstep st h).sq;refine⟨⟨vs,v,h',D⟩,λx H'' ⟨t,us,hn,ex,eH,y,eu,hy⟩=>?_⟩;subst ex eH eu;have:=hy vs h';rw[D] at this;cases this;exact⟨uz hn,De (.cons ↥_ (.cons I .nil)) hn⟩
 stop:=λW' H' st=>⟨vs,(ok.lsstep st h).sq,by rw[Db,r.length]⟩
def J9{l':Addr}{vs':kv}{es:k4}(ok:Ok X.K G H0 W env σ H)(h:gQ X.K H (Ow G W) l vs)(h':gQ X.K H (Ow G W) l' vs')(r:aL X.K H (Ow G W) ds vs)(I:aL X.K H (Ow G W) es vs'):xR X.K G (y3 X.K l l') W H (fG ds es) where
 go:=λW' H' i d st e=>by
  obtain⟨k,m,c,f,rfl⟩:=Dc _ _ _ _ e;obtain⟨v1,S,g⟩:=(ok.reps st r).get c;obtain⟨v2,U,j⟩:=(ok.reps st I).get f;have Y:=(ok.lsstep st h).sq;have Z:=(ok.lsstep st h').sq;refine⟨⟨vs,vs',v1,v2,Y,Z,S,U⟩,λx H'' ⟨t,us,hn,ex,eH,y1,y2,eu,hy1,hy2⟩=>?_⟩;subst ex eH eu;have a:=hy1 vs Y;have b:=hy2 vs' Z;rw[S] at a;cases a;rw[U] at b;cases b;exact⟨uz hn,De (.cons g (.cons j .nil)) hn⟩
 stop:=λW' H' st=>⟨vs,vs',(ok.lsstep st h).sq,(ok.lsstep st h').sq,by rw[Dd,r.length,I.length]⟩
def Df(I:PI X tg e (yA X.K c (kO X.K G H0 F))):kE X G H0 tg e (io (iY c) F):=⟨I.imp λσ H R S=>by
 obtain⟨W,env,ds,env',ok,q,k⟩:=S;cases e1:F env with
 |none=>simp[e1] at q |some z =>
   obtain⟨as,env1⟩:=z;cases e2:iY c as with
   |none=>rw[io,e1] at q;simp only[ac,e2] at q;cases q
   |some d' =>
     have q:↑(d',env1)=↑(ds,env'):=by rw[io,e1] at q;simp only[ac,e2] at q;exact q
     cases q;refine⟨W,env,as,_,ok,e1,λW1 vs H1 U D p1=>?_⟩;unfold iY at e2;split at e2
     ·rename_i xs
      cases e2;obtain⟨v,rfl,V⟩:=ui p1;obtain⟨l,us,rfl,h,r⟩:=V.lst_;exact⟨l,us,rfl,h.sq,k W1 _ H1 U D (J8 c D h r)⟩
     ·cases e2⟩
def sr(D:e_ X G H0 [a] F)(I:Bn X "enumerate":=by walk_at "b")(S:‹starEach [a] X.env=[(false,eval a X.env)]›) :
  kE X G H0 (.Tuple es k p1) (.Call (.Name "enumerate" p) [a] [] pos) (io (iY 0) F):=Df (J4 I D.out S)
def JA(I:e_ X G H0 [a] F)(S:Bn X "enumerate":=by walk_at "b")(U:‹starEach [a] X.env=(false,eval a X.env)::starEach [] X.env›)(D:‹(backTo pos (starEach [a] X.env)).any (·.1)=false›) :
  kE X G H0 (.Tuple es k p1) (.Call (.Name "enumerate" p) [a] [⟨some "start",.Constant ↥1 j p2,kp⟩] pos) (io (iY 1) F):=Df (J6 S I.out U D)
def Dg(U:e_ X G H0 [a,b] F)(V:Bn X "zip":=by walk_at "b")(Y:‹starEach [a,b] X.env=[(false,eval a X.env),(false,eval b X.env)]›)(I:‹starEach [b] X.env=[(false,eval b X.env)]›) :
  kE X G H0 (.Tuple es k p1) (.Call (.Name "zip" p) [a,b] [] pos) (io lD F):=⟨(C_ V U.out Y I).imp λσ H R Z=>by
 obtain⟨W,env,ds,env',ok,q,k⟩:=Z;cases e1:F env with
 |none=>simp[e1] at q |some z =>
   obtain⟨as,env1⟩:=z;cases e2:lD as with
   |none=>rw[io,e1] at q;simp only[ac,e2] at q;cases q
   |some d' =>
     have q:↑(d',env1)=↑(ds,env'):=by rw[io,e1] at q;simp only[ac,e2] at q;exact q
     cases q;refine⟨W,env,as,_,ok,e1,λW1 vs H1 c D p1=>?_⟩;unfold lD at e2;split at e2
     ·rename_i xs ys
      cases e2;obtain⟨v,g,rfl,d,e⟩:=rL p1;obtain⟨l,us,rfl,h,r⟩:=d.lst_;obtain⟨l',S,rfl,h',f⟩:=e.lst_;exact⟨l,l',us,S,rfl,h.sq,h'.sq,k W1 _ H1 c D (J9 D h h' r f)⟩
     ·cases e2⟩
def JB{env0:aP}{z:Int}(h:aB i env=↑(.int z,env0)):env[i]?=↑⇑↥z/\env0=env:=by
 unfold aB at h;split at h
 ·rename_i d hd
  cases h;exact⟨hd,rfl⟩
 all_goals cases h
variable{op:D->D->k6}
def JC(V:∀D I d,op D I=↑d->∃u v,D=.int u/\I=.int v/\d=.int (o u v)):∀Dn σ H,rV X G H0 (aH i (aD op (aB i) f)) Dn σ H->nK i (tD X.K G H0 f) (q_ o) Dn σ H :=
 λDn σ H Y=>by
 obtain⟨W,env,fl,env',ok,q,k⟩:=Y;unfold aH aD at q;cases e0:aB i env with
 |none=>rw[e0] at q;cases q
 |some r0 =>
   obtain⟨Z,env0⟩:=r0;rw[e0,ac] at q;cases e1:f env0 with
   |none=>rw[e1] at q;cases q
   |some S =>
     obtain⟨D,env1⟩:=S;rw[e1,ac] at q;cases e2:op Z D with
     |none=>rw[e2] at q;cases q
     |some I =>
       rw[e2] at q;cases q;obtain⟨u,v,rfl,rfl,rfl⟩:=V _ _ _ e2;obtain⟨a,rfl⟩:=JB e0;obtain⟨y,b,c⟩:=ok.slot i _ a;refine⟨y,b,W,env0,_,_,ok,e1,λW1 v1 H1 e U S=>⟨u,v,bB.int_ c,S.int_,k W1 _ H1 e (U.set ↥_)⟩⟩
def wu(I:eJ Nn X)(S:aS X G H0 e f)(D:‹Nn[i]?=↑x›) :
  eR X G H0 (.AugAssign (.Name x p') .Add e pos) (aH i (aD iq (aB i) f)):=⟨(GB (I.t D).nd (I.t D).n (I.t D).l S.out B2 (I.t D).f).imp (JC λU V d h=>by
 cases U <;> try (cases h;done)
 all_goals cases V <;> first | (cases h;done) |exact⟨_,_,rfl,rfl,(b8 h).symm⟩)⟩
def Dh:V->V->Hp->VK->Prop:=λo i H Q=>∃l xs k v,o=.ref l/\i=.int k/\H l=↑(.lst xs)/\0<=k/\xs[k.toNat]?=↑v/\Q v H
theorem Di:nL X Dh:=by
 intro pins s σ H o i a b Q I ro U h;obtain⟨l,xs,k,v,rfl,rfl,V,Y,S,q⟩:=h;cases ro;obtain⟨t,rfl⟩:=U;obtain⟨its,r,pl,c⟩:=I.list (.inl (.inl V));obtain⟨w,Z,D⟩:=r.get S;have d:=(aj.mp S).1;have e:=l_;exact wpAny_getItem_list pl.isList Y ∅ (by simpa using Z) ⟨v,H,I,D,q⟩
def oN(i:Nat)(op:D->D->k6)(k:Int)(d v:D)(e:aP):Option (Fl×aP):=match e[i]? with
 |some ↑(.ow ds)=>if k.toNat<ds.length then(op d v).map λr=>(.nx,e.set i ↑(.ow (ds.set k.toNat r))) else none
 |_=>none
def uj(i:Nat)(op:D->D->k6)(U V:FE):FS:=λe=>match e[i]? with
 |some ↑(.ow _)=>(U e).bind λI=>match I.1,I.2[i]? with
   | .int k,↑↑(.ow ds)=>if 0<=k then(ds[k.toNat]?).bind λd=>(V I.2).bind λS=>oN i op k d S.1 S.2 else none
   |_,_=>none
 |_=>none
theorem Dj(y:∀r s d,op r s=↑d->∃u v,r=.int u/\s=.int v/\d=.int (o u v)) :
  ∀Dn σ H,rV X G H0 (uj i op g f) Dn σ H->B0 (jB i) (tD X.K G H0 g) (tD X.K G H0 f) Dh (q_ o) Ca Dn σ H:=λDn σ H z=>by
 obtain⟨W,env,fl,env',ok,q,k⟩:=z;unfold uj at q;split at q;case h_2=>cases q
 rename_i A b;obtain⟨v,Z,l,B,rfl,C,E,_⟩:=ok.slot i _ b;cases e1:g env with
 |none=>rw[e1] at q;cases q
 |some a =>
 obtain⟨dk,env1⟩:=a;rw[e1,ac] at q;dsimp only at q;split at q;case h_2=>cases q
 rename_i kk ds F;split at q;case isFalse=>cases q
 rename_i I;cases e2:ds[kk.toNat]? with
 |none=>rw[e2] at q;cases q
 |some dd =>
 rw[e2,ac] at q;cases e3:f env1 with
 |none=>rw[e3] at q;cases q
 |some r3 =>
 obtain⟨J,t⟩:=r3;rw[e3,ac] at q;unfold oN at q;split at q;case h_2=>cases q
 rename_i L S;split at q;case isFalse=>cases q
 cases e4:op dd J with
 |none=>rw[e4] at q;cases q
 |some dr =>
 rw[e4] at q;cases q;obtain⟨u,w,rfl,rfl,rfl⟩:=y _ _ _ e4;refine⟨_,Z,W,env,_,_,ok,e1,λW1 v1 H1 M U a=>?_⟩;obtain⟨N,D,l',c,O,P,e,h⟩:=U.slot i _ F;rw[Z] at D;cases D;cases O;obtain⟨Q,j,m⟩:=h.get e2;refine⟨l,c,kk,Q,rfl,a.int_,e,I,j,W1,env1,_,_,U,e3,λR v2 H2 s2 V T=>?_⟩;refine⟨u,w,m.int_,T.int_,?_⟩;obtain⟨N,D,l',n,e6,aa,p,Y⟩:=V.slot i _ S;rw[Z] at D;cases D;cases e6;obtain⟨t1,t2⟩:=V.turn S Z (aL.set ↥(o u w) kk.toNat Y);have x:=Y.length;refine⟨l,n,kk,kk.toNat,rfl,a.int_,p,?_,k R _ _ ((M.trans s2).trans t2) t1⟩;unfold eI;rw[am I,am ∅]
def Dk(U:aS X G H0 b g)(V:aS X G H0 e f)(an:bR Nn Cn X)(S:‹Nn[i]?=↑x›)(Y:∀D I new,augStore b D I new=(do holding [new,D,I] (setItem D I new);release [new,D,I] [];pure .next):=by intros;rfl) :
  eR X G H0 (.AugAssign (.Subscript (.Name x p') b p1) .Add e pos) (uj i iq g f):=⟨(B1 ((an.a S).pe) U.out Di V.out B2 mv Y).imp (Dj λZ c d h=>by
 cases Z <;> try (cases h;done)
 all_goals cases c <;> first | (cases h;done) |exact⟨_,_,rfl,rfl,(b8 h).symm⟩)⟩
def Dl(U:aS X G H0 b g)(V:aS X G H0 e f)(an:bR Nn Cn X)(S:‹Nn[i]?=↑x›)(Y:∀D I new,augStore b D I new=(do holding [new,D,I] (setItem D I new);release [new,D,I] [];pure .next):=by intros;rfl) :
  eR X G H0 (.AugAssign (.Subscript (.Name x p') b p1) .Sub e pos) (uj i aZ g f):=⟨(B1 ((an.a S).pe) U.out Di V.out GC mv Y).imp (Dj λZ c d h=>by
 cases Z <;> try (cases h;done)
 all_goals cases c <;> first | (cases h;done) |exact⟨_,_,rfl,rfl,(b8 h).symm⟩)⟩
def yC(I:k4)(e:aP)(i:Nat):Option (D×aP):=match e[i]? with
 |some ↑(.ow ds)=>if cI (ds.length+I.length) then ↑(.non,e.set i ↑(.ow (ds++I))) else none
 |_=>none
def sv(i:Nat)(F:FA):FE:=λe=>match e[i]? with
 |some ↑(.ow _)=>(F e).bind λr=>yC r.1 r.2 i
 |_=>none
def JD(j:fW X G H0 a F)(an:bR Nn Cn X)(Y:‹Nn[i]?=↑x›)(D:‹attributeBase (.Name x p') "extend" X.env (eval (.Name x p') X.env)=eval (.Name x p') X.env›)(S:((backTo pos (starEach [a] X.env)).all (λx=>!x.1) && (backToKw pos (keywordEach [] X.env)).all (λx=>x.1.isSome)
   && decide ([a].length+([]:List Keyword).length+(if ([]:List Keyword).isEmpty then 0 else 1)<30))=true:=by rfl)(I:‹(p1.endLine==pos.line)=true›)(e:‹starEach [a] X.env=(false,eval a X.env)::starEach [] X.env›) :
  aS X G H0 (.Call (.Attribute (.Name x p') "extend" p1) [a] [] pos) (sv i F):=⟨(rD gw PySem.F.slot_list_extend PySem.F.type_list_extend HV ((an.a Y).pe) (om j.out tw e) D S I e rfl).imp λσ H Q m=>by
 obtain⟨W,env,d,env',ok,q,k⟩:=m;unfold sv at q;split at q;case h_2=>cases q
 rename_i o Z;obtain⟨v,b,l,p,rfl,s,c,_⟩:=ok.slot i _ Z;cases e1:F env with
 |none=>rw[e1] at q;cases q
 |some r =>
   obtain⟨t,env1⟩:=r;rw[e1,ac] at q;unfold yC at q;split at q;case h_2=>cases q
   rename_i ds f;split at q;case isFalse=>cases q
   rename_i U;cases q;refine⟨_,b,.inl ⟨rfl,_,.inl (.inl c)⟩,W,env,t,env1,ok,e1,λW1 n us H1 u w V E y g=>?_⟩;obtain⟨J,h,l',vs,z,K,A,r⟩:=V.slot i _ f;rw[b] at h;cases h;cases z;obtain⟨B,C⟩:=V.turn f b (r.append g);refine⟨l,n,vs,us,rfl,rfl,A,y,?_,k _ _ _ (u.trans C) B .non⟩;rw[<-r.length,<-g.length];exact d7 U (by rw[gz];decide)⟩
def yl:D->Bool | .tup _=>false | .lst _=>false | .dct _ _=>false |_=>true
variable{d:D}
def bB.atom{D:kf}{O':Addr->Prop}(r:bB K H O d v)(h:yl d=true):bB D H' O' d v:=by
 cases r with
 |non=>exact .non |bl b=>exact .bl b |int i=>exact .int i
 |str s=>exact .str s |tup _ _=>cases h
 |lst _ _ _=>cases h
 |klst _ _=>cases h
 |dct _ _=>cases h
 |exc a=>exact .exc a
structure oO (X:Cx) (G:Gd) (H0:Hp) (tg:Expr) (e:Expr) (f:FI):Prop where
 out:PI X tg e (rS X.K G H0 f)
def lE(i:Nat):FI:=λe=>match e[i]? with
 |some ↑(.ow ds)=>↑(ds,e) |some ⇑(.lst ds)=>↑(ds,e) |_=>none
def s0:k8->k8 |some (.sh d)=>⇑d |some (.ow ds)=>⇑(.lst ds) |_=>none
def sA(fi:FI)(ix:ic)(tt:FT)(te:FE):FA:=λe=>(fi e).bind λr=>if cI r.1.length then(rg tt te (ix.map λj=>s0 (r.2.getD j none)) r.1).bind λds=>if ds.all yl=true then ↑(ds,r.2) else none else none
def JE(h:iX X G H0 tg e fi):oO X G H0 tg e fi:=⟨h.out.imp λσ H R ⟨W,env,ds,env',ok,q,k⟩ =>
 ⟨W,env,ds,env',ok,q,λW' J H' st D I=>k W' J H' st D I.s⟩⟩
def Dm(an:bR Nn Cn X)(I:‹Nn[i]?=↑x›):oO X G H0 tg (.Name x p1) (lE i):=⟨(v_ ((an.a I).pe)).imp λσ H R Z=>by
 obtain⟨W,env,ds,env',ok,q,k⟩:=Z;unfold lE at q;split at q
 ·rename_i ds' S
  cases q;obtain⟨v,U,l,vs,rfl,f,V,r⟩:=ok.slot i _ S;refine⟨_,U,l,rfl,⟨vs,.inl (.inl V)⟩,k W _ H Step.refl ok ⟨λH' j d sm e=>?_,λH' sm=>⟨vs,.inl (.inl (sm _ _ V)),by rw[r.length];exact cw _⟩⟩⟩;obtain⟨w,Y,b⟩:=(ok.reps (Step.same sm) r).get e;have D:dH X.K H' l vs:=.inl (.inl (sm _ _ V));exact⟨⟨vs,w,D,Y⟩,λy H'' ⟨e3,z⟩=>⟨e3,by have:=z vs D;rw[Y] at this;cases this;exact b⟩⟩
 ·rename_i ds' S
  cases q;obtain⟨v,U,r⟩:=ok.slot i _ S;obtain⟨l,vs,rfl,h,r⟩:=bB.lst_ r;have c:=C8 ok h r;exact⟨_,U,l,rfl,⟨vs,h.sq⟩,k W _ H Step.refl ok c.s⟩
 ·cases q⟩
def JF(ok:Ok X.K G H0 W env σ H)(r:bB X.K H (Ow G W) d v) :
  Ok X.K (gd λa=>G a\/H a=none) H dA (⇑d::ix.map λj=>s0 (env.getD j none)) (↑v::ix.map λj=>σ.getD j none) H:=by
 have up1:∀(a:Addr) (us:kv),Ow G W a->Rd H a (.lst us)->Ow (gd λa=>G a\/H a=none) dA a/\Rd H a (.lst us):=λa us o h=>⟨⟨.inl o.1,λz=>z⟩,h⟩;have I:∀ {d:D} {v:V},bB X.K H (Ow G W) d v->bB X.K H (Ow (gd λa=>G a\/H a=none) dA) d v:=λr=>r.mono (λ_ _ h=>h) up1;refine xH (pre:=[⇑d]) (σp:=[↑v]) ok (λa z=>.inr z) rfl (λi s z=>?_) (λS s u z r=>?_) rfl
 ·cases i with
  |zero=>cases z;exact⟨d,v,rfl,rfl,I r⟩
  |succ i=>cases z
 ·cases S <;> cases z
  ·exact⟨_,rfl,I r⟩
  ·obtain⟨l,vs,rfl,U,Y,Z⟩:=r
   exact⟨_,rfl,.lst ⟨.inl (ok.good l (ok.wl l U).1),λz=>z⟩ (.inl Y) (Z.mono (λ_ _ h=>h) up1)⟩
variable{te:FE}
def JG:∀σ H Q,hC X.K G H0 (sA fi ix tt te) σ H Q->xp (rS X.K G H0 fi) ix (gR X.K tt) (kZ X.K te) σ H Q :=
 CI (cap:=s0) (pr:=λd=>yl d=true) (λq=>by
  obtain⟨⟨ds,env1⟩,U,q⟩:=db.mp q;by_cases D:cI ds.length;case neg=>cases (bw D).symm.trans q
  obtain⟨S,V,q⟩:=db.mp ((am D).symm.trans q);split at q;case isFalse=>cases q
  rename_i I;cases q;exact⟨ds,U,D,V,f9.mp I⟩) λok r=>⟨_,JF ok r,λr3 h=>r3.atom h⟩
def JH(an:bR Nn Cn X)(hi:oO X G H0 (.Name x px) a fi)(I:∀cl C s₂ H₂ fp G H0,bR (x::(aT Nn ix)) (aT Nn ix) (kq X x (aT Nn ix) sc cl C s₂ H₂ fp)->aS (kq X x (aT Nn ix) sc cl C s₂ H₂ fp) G H0 e te)(D:t9 Nn Cn ix x sc=true:=by decide +kernel)(S:‹X.calm=true›)(U:∀v,foldedSetIterable a X.env v=pure v:=by intro _;rfl) :
  fW X G H0 (.ListComp e [⟨.Name x px,a,[],0⟩] sc pos) (jf fi ix b_ te) :=
 ⟨(wW (xv an D) (λ_ _ _ _ _ _ _ _ _=>S) hi.out (λcl C s₂ H₂ fp _=>z9 (X:=X) rfl) (λcl C s₂ H₂ fp _=>fZ (X:=X) rfl (λG H0=>I cl C s₂ H₂ fp G H0 (uw D))) U).imp xI⟩
def JJ(an:bR Nn Cn X)(U:eJ Nn X)(hi:oO X G H0 (.Name x px) a fi)(V:∀cl C s₂ H₂ fp G H0,bR (x::(aT Nn ix)) (aT Nn ix) (kq X x (aT Nn ix) sc cl C s₂ H₂ fp)->aS (kq X x (aT Nn ix) sc cl C s₂ H₂ fp) G H0 e te)(S:t9 Nn Cn ix x sc=true:=by decide +kernel)(Z:‹X.calm=true›)(I:‹Nn[i]?=↑y›)(Y:‹swapsWith (.ListComp e [⟨.Name x px,a,[],0⟩] sc pos) ↑(.Name y py) spos.line X.env=pure true›)(b:∀v,foldedSetIterable a X.env v=pure v:=by intro _;rfl) :
  PS X (.Assign [.Name y py] (.ListComp e [⟨.Name x px,a,[],0⟩] sc pos) spos) (fB (hC X.K G H0 (jf fi ix b_ te)) (n9 i)) :=
 (nY (xv an S) (λ_ _ _ _ _ _ _ _ _=>Z) (U.t I).nd (U.t I).n (U.t I).l hi.out (λcl C s₂ H₂ fp _=>z9 (X:=X) rfl) (λcl C s₂ H₂ fp _=>fZ (X:=X) rfl (λG H0=>V cl C s₂ H₂ fp G H0 (uw S))) Y (U.t I).f b).imp λD σ H h=>xI σ H _ h
def JL(an:bR Nn Cn X)(U:eJ Nn X)(hi:oO X G H0 (.Name x px) a fi)(V:∀cl C s₂ H₂ fp G H0,bR (x::(aT Nn ix)) (aT Nn ix) (kq X x (aT Nn ix) sc cl C s₂ H₂ fp)->gD (kq X x (aT Nn ix) sc cl C s₂ H₂ fp) G H0 cd tt)(Y:∀cl C s₂ H₂ fp G H0,bR (x::(aT Nn ix)) (aT Nn ix) (kq X x (aT Nn ix) sc cl C s₂ H₂ fp)->aS (kq X x (aT Nn ix) sc cl C s₂ H₂ fp) G H0 e te)(S:t9 Nn Cn ix x sc=true:=by decide +kernel)(b:‹X.calm=true›)(I:‹Nn[i]?=↑y›)(Z:‹swapsWith (.ListComp e [⟨.Name x px,a,[cd],0⟩] sc pos) ↑(.Name y py) spos.line X.env=pure true›)(c:∀v,foldedSetIterable a X.env v=pure v:=by intro _;rfl) :
  PS X (.Assign [.Name y py] (.ListComp e [⟨.Name x px,a,[cd],0⟩] sc pos) spos) (fB (hC X.K G H0 (sA fi ix tt te)) (n9 i)) :=
 (nY (xv an S) (λ_ _ _ _ _ _ _ _ _=>b) (U.t I).nd (U.t I).n (U.t I).l hi.out (λcl C s₂ H₂ fp _=>k_ (X:=X) rfl (λG H0=>V cl C s₂ H₂ fp G H0 (uw S))) (λcl C s₂ H₂ fp _=>fZ (X:=X) rfl (λG H0=>Y cl C s₂ H₂ fp G H0 (uw S))) Z (U.t I).f c).imp λD σ H h=>JG σ H _ h
def we(i:Nat):FE:=λe=>match e[i]? with
 |some ↑(.ow ds)=>(dM ds).map λns=>(.int ns.sum,e) |some ⇑(.lst ds)=>(dM ds).map λns=>(.int ns.sum,e) |_=>none
def yD(an:bR Nn Cn X)(Y:‹X.calm=true›)(U:Bn X "sum":=by walk_at "b")(D:‹Nn[i]?=↑x›)(V:‹starEach [.Name x p1] X.env=(false,eval (.Name x p1) X.env)::starEach [] X.env›):aS X G H0 (.Call (.Name "sum" p') [.Name x p1] [] pos) (we i) :=
 ⟨(mu (C5 Y) U.g U.m boot_sum (om ((an.a D).pe) tw V) (by decide) (by decide) V rfl).imp λσ H Q Z=>by
  obtain⟨W,env,d,env',ok,q,k⟩:=Z;unfold we at q;split at q
  ·rename_i ds I
   cases e2:dM ds with
   |none=>rw[e2] at q;cases q
   |some ns =>
   rw[e2] at q;cases q;cases rM e2;obtain⟨v,S,l,vs,rfl,c,b,r⟩:=ok.slot i _ I;cases rN r;exact⟨_,S,l,ns,rfl,.inl (.inl b),k W _ H Step.refl ok ↥_⟩
  ·rename_i ds I
   cases e2:dM ds with
   |none=>rw[e2] at q;cases q
   |some ns =>
   rw[e2] at q;cases q;cases rM e2;obtain⟨v,S,r⟩:=ok.slot i _ I;obtain⟨l,us,rfl,h,r⟩:=bB.lst_ r;cases rN r;exact⟨_,S,l,ns,rfl,h.sq,k W _ H Step.refl ok ↥_⟩
  ·cases q⟩
def Do(K:kf)(G:Gd)(H0:Hp)(f:FA):TA:=λσ H Q=>DP K G H0 f (λW env ds env' =>
 ∀W' vs H',Step W H W' H'->Ok K G H0 W' env' σ H'->aL K H' G ds vs->Q vs H') σ H
structure sB (X:Cx) (G:Gd) (H0:Hp) (es:j0) (f:FA):Prop where
 out:PA X es (Do X.K G H0 f)
def JM(h:e_ X G H0 es F):sB X G H0 es F:=⟨h.out.imp λσ H Q ⟨W,env,ds,env',ok,q,k⟩ =>
 ⟨W,env,ds,env',ok,q,λW' vs H' st D r=>k W' vs H' st D (r.mono (λ_ _ h=>h) λa us o h=>⟨o.1,h⟩)⟩⟩
def sC(i:Nat)(F:FA):FA:=λe=>match e[i]? with
 |some ↑(.ow _)=>(F e).bind λq=>match q.2[i]? with |some ↑(.ow ds)=>↑(.lst ds::q.1,q.2) |_=>none
 |_=>none
def JN(b:sB X G H0 es F)(an:bR Nn Cn X)(I:‹Nn[i]?=↑x›)(c:‹starEach (.Name x p1::es) X.env=(false,eval (.Name x p1) X.env)::starEach es X.env›):sB X G H0 (.Name x p1::es) (sC i F) :=
 ⟨(om ((an.a I).pe) b.out c).imp λσ H Q d=>by
  obtain⟨W,env,ds,env',ok,q,k⟩:=d;unfold sC at q;split at q;case h_2=>cases q
  rename_i e S;obtain⟨v,Y,l,f,rfl,g,j,_⟩:=ok.slot i _ S;cases e1:F env with
  |none=>rw[e1] at q;cases q
  |some r =>
    obtain⟨U,env1⟩:=r;rw[e1,ac] at q;split at q;case h_2=>cases q
    rename_i m V;cases q;refine⟨_,Y,W,env,U,_,ok,e1,λW1 vs H1 n D p=>?_⟩;obtain⟨z,Z,l',s,t,u,w,y⟩:=D.slot i _ V;rw[Y] at Z;cases Z;cases t;exact k W1 _ H1 n D (.cons (.lst (D.good l (D.wl l u).1) (.inl w) (y.mono (λ_ _ h=>h) λa us o h=>⟨o.1,h⟩)) p)⟩
def oP(m:k4->k6)(F:FA):FE:=λe=>(F e).bind λr=>(m r.1).bind λd=>if yl d=true then ↑(d,r.2) else none
variable{E:XK}
def JO:∀σ H Q,tD X.K G H0 (oP m F) σ H Q->rz (cM X.K m) [] E (Do X.K G H0 F) σ H Q:=λσ H Q S=>by
 obtain⟨W,env,d,env',ok,q,k⟩:=S;unfold oP at q;cases e1:F env with
 |none=>rw[e1] at q;cases q
 |some r =>
   obtain⟨ds,env1⟩:=r;rw[e1,ac] at q;cases e2:m ds with
   |none=>rw[e2] at q;cases q
   |some d' =>
     rw[e2,ac] at q;split at q;case isFalse=>cases q
     rename_i D;cases q;refine⟨W,env,ds,_,ok,e1,λW1 vs H1 U I p1=>?_⟩;show cM X.K m (vs++[]) H1 Q E;rw[du];exact⟨G,ds,_,p1,e2,λv H2 sm V=>k W1 v H2 (U.trans (Step.same sm)) (I.same sm) (V.atom D)⟩
def JP{jr:Nat}(c:bN X.prog X.w X.K X.mg X.base bV x k (cM X.K m))(U:bA jr X.A)(V:sB X G H0 (e::es) F)(D:k<=jr:=by decide)(Y:Gl X x:=by walk_at "g")(Z:‹starEach (e::es) X.env=(false,eval e X.env)::starEach es X.env›)(I:‹(backTo pos (starEach es X.env)).any (·.1)=false›) :
  aS X G H0 (.Call (.Name x p') (e::es) [] pos) (oP m F):=let ⟨_,_,_,a,b,d,f,S⟩:=c;⟨(rA a (U.mono D) Y b d f .nil rF V.out S Z I).imp JO⟩
variable{xs:h6}
def yE(h:sc.names.lookup x=some .globalImplicit):Gl (m3 X xs N' sc cl C s H fp) x:=xW h
def oQ(N cs:h6)(ix:ic)(xs:h6)(sc:Scope):Bool:=decide ((xs++aT N ix).Nodup) && decide (sc.kind=.function) && xs.all (λy=>sc.names.lookup y==some .local) && decide (∀z∈sc.names,z.2≠.cell) && decide (∀z∈sc.names,z.2=.local->sc.names.lookup z.1=some .local) && decide (∀z∈sc.names,z.2=.free->z.1∈aT N ix) && (aT N ix).all (λu=>(sc.names.lookup u==some .free) && cs.elem u) && (xs++aT N ix).all iH
variable{cs:h6}
def JQ(hA:bR N cs X)(h:oQ N cs ix xs sc=true):Cq X xs (aT N ix) ix sc:=by
 unfold oQ at h;simp only[d9,iw,f9] at h;obtain⟨⟨⟨⟨⟨⟨⟨h1,h2⟩,I⟩,S⟩,U⟩,V⟩,D⟩,_⟩:=h;exact⟨by rw[hA.n];rfl,h1,h2,λy Y=>qv (I y Y),S,U,λz Z a=>hA.ck z.1 (List.mem_of_elem_eq_true (D z.1 (V z Z a)).2),λu b=>qv (D u b).1⟩
def Dp(h:oQ N cs ix xs sc=true):bR (xs++aT N ix) (aT N ix) (m3 X xs (aT N ix) sc cl C s H fp)/\eJ xs (m3 X xs (aT N ix) sc cl C s H fp):=by
 unfold oQ at h;simp only[d9,iw,f9] at h;obtain⟨⟨⟨⟨⟨⟨⟨h1,h2⟩,D⟩,V⟩,Y⟩,Z⟩,I⟩,S⟩:=h;refine⟨⟨rfl,λi x e=>⟨e,?_,(um (S x (bh e))).1,(um (S x (bh e))).2⟩,λu U=>?_⟩,⟨λi x e=>⟨h1,?_,.inl (i5 (qv (D x (bh e)))),.inr (i5 (qv (D x (bh e))))⟩⟩⟩
 ·rcases dg.mp (bh e) with hm |hm
  ·exact .inl (i5 (qv (D x hm)))
  ·exact .inr (mx (qv (I x hm).1))
 ·exact mx (env:=X.env) (qv (I u U).1)
 ·show(xs++aT N ix)[i]?=↑x
  rw[ay (aj.mp e).1];exact e
def uo:ic->kv->St->St
 |i::ix,v::vs,σ=>uo ix vs (σ.set i ↑v)
 |_,_,σ=>σ
def Dq:∀(ix:ic) (vs:kv) (a b:St),(∀i∈ix,i<a.length)->uo ix vs (a++b)=uo ix vs a++b/\(uo ix vs a).length=a.length
 | [],vs,a,b,_=>by simp[uo] |i::ix,[],a,b,_=>by simp[uo]
 |i::ix,v::vs,a,b,h=>by
   have hi:=h i bi;have D:=Dq ix vs (a.set i ↑v) b λj I=>by rw[d6];exact h j (bg _ I)
   rw[uo,uo,List.set_append_left _ _ hi,D.1];exact⟨rfl,by rw[D.2,d6]⟩
def Dr{K:kf}{G:Gd}{W:Addr->Prop}{H0 H:Hp}:∀(ix:ic) (ds:k4) (vs:kv) (env:aP) (σ:St) (Q:St->Hp->Prop),Ok K G H0 W env σ H->aL K H (Ow G W) ds vs->ds.length=ix.length ->
  (Ok K G H0 W (wm ix ds env) (uo ix vs σ) H->Q (uo ix vs σ) H)->iN ix vs σ H Q
 | [],ds,vs,env,σ,Q,ok,r,hl,k=>by
   cases r with
   |nil=>exact⟨rfl,k ok⟩ |cons _ _=>cases hl
 |i::ix,ds,vs,env,σ,Q,ok,r,hl,k=>by
   cases r with
   |nil=>cases hl
   | @cons d v ds vs r0 r =>
     exact⟨v,vs,rfl,Dr ix ds vs _ _ Q (ok.set r0) r (sj hl) k⟩
def sE(tt:FT)(te:FE)(n:Nat)(base:aP):k4->Option k4
 | []=>↑[] |d::r=>(mG (List.range n) d (List.replicate n none++base)).bind λe=>(tt e).bind λb=>if b.1=true then(te b.2).bind λv=>(sE tt te n base r).map (v.1::·) else sE tt te n base r
def sF(n:Nat)(fi:FI)(ix:ic)(tt:FT)(te:FE):FA:=λe=>(fi e).bind λr=>if cI r.1.length then(sE tt te n (ix.map λj=>gH (r.2.getD j none)) r.1).map λds=>(ds,r.2) else none
def JR(h:iX X G H0 tg e fi):kE X G H0 tg e fi:=⟨h.out.imp λσ H R ⟨W,env,ds,env',ok,q,k⟩ =>
 ⟨W,env,ds,env',ok,q,λW' J H' st I S=>k W' J H' st I ⟨λD H2 i d s2 e=>⟨(S.go D H2 i d s2 e).1,λx U y=>by
  obtain⟨rfl,r⟩:=(S.go D H2 i d s2 e).2 x U y;exact⟨bC.refl _,r⟩⟩,λD H2 s2=>S.stop D H2 s2⟩⟩⟩
def JS{σp:St}(D:σp.length=n)(ok:Ok X.K G H0 W env σ H) :
  Ok X.K (gd λa=>Ow G W a\/H a=none) H dA (List.replicate n none++ix.map λj=>gH (env.getD j none)) (σp++ix.map λj=>σ.getD j none) H:=by
 refine xH ok (λa z=>.inr z) (by rw[fy,D]) (λi s z=>?_) (CB λr=>r.mono (λ_ _ h=>h) λa us o h=>⟨⟨.inl o,λz=>z⟩,h⟩) rfl;cases (List.mem_replicate.mp (bh z)).2
theorem JT:∀σ H Q,hC X.K G H0 (sF n fi ix tt te) σ H Q->Ck n (CM X.K G H0 fi) (nI X.K n (iN (List.range n))) ix (gR X.K tt) (kZ X.K te) σ H Q:=λσ H Q z=>by
 obtain⟨W,env,d,env',ok,q,k⟩:=z;obtain⟨⟨ds,env1⟩,M,q⟩:=db.mp q;by_cases e:cI ds.length;case neg=>cases (bw e).symm.trans q
 obtain⟨v,N,q⟩:=fq.mp ((am e).symm.trans q);cases q;refine⟨W,env,ds,_,ok,M,λW1 J H1 O f A=>⟨jH X.K (Ow G W1) H1 ds d (sE tt te n (ix.map λj=>gH (env1.getD j none))),⟨ds.length,d,[],rfl,ie _,bC.refl _,.nil,cw _,N,rfl⟩,λi m H' ys z=>?_⟩⟩;obtain⟨rest,B,P,Z,sm,C,hd,b,E⟩:=z;subst P;have U:=f.same sm;by_cases D:i<ds.length
 ·rw[il D] at b
  obtain⟨R,T⟩:=A.go W1 H' i ds[i] (Step.same sm) (bc D);refine .inr ⟨R,λx g y σp I=>?_⟩;obtain⟨V,F⟩:=T x g y;have S:=U.same V;have l:=JS (ix:=ix) I S;obtain⟨aa,Y,b⟩:=db.mp b;unfold mG at Y;generalize ds[i]=dn at F Y;split at Y;case h_2=>cases Y
  rename_i p;split at Y;case isFalse=>cases Y
  rename_i c;cases Y;obtain⟨r,vs,rfl,ht,L⟩:=F.tup_;refine⟨r,vs,rfl,eG.of ht,by rw[<-L.length,c,j9],Dr (List.range n) p vs _ _ _ l (L.mono (λ_ _ h=>h) λa us o h=>⟨⟨.inl o,λz=>z⟩,h⟩) c λs=>?_⟩;obtain⟨t,u⟩:=Dq (List.range n) vs σp (ix.map λj=>σ.getD j none) λj hj=>by rw[I];exact gq.mp hj
  exact⟨uo (List.range n) vs σp,by rw[u,I],t,CG e D s S (sm.trans V) (U.reps (Step.same V) C) hd E b λr3 _=>r3.mono (λ_ _ h=>h) λa us o h=>⟨o.1.elim (λz=>z) λz=>⟨S.good a (S.stay.free z),λw=>by obtain⟨_,us,q⟩:=S.wl a w;rw[z] at q;cases q⟩,h⟩⟩
 ·exact .inl ⟨by cases lf Z (i7 D);exact A.stop W1 H' (Step.same sm),CH e Z D U O sm C hd E b rfl k⟩
def Ds(xs:h6)(an:bR Nn Cn X)(hi:kE X G H0 (.Tuple es k p1) a fi)(V:∀cl C s₂ H₂ fp,eJ xs (m3 X xs (aT Nn ix) sc cl C s₂ H₂ fp)->jC (m3 X xs (aT Nn ix) sc cl C s₂ H₂ fp) es (iN (List.range xs.length)))(I:∀cl C s₂ H₂ fp G H0,bR (xs++aT Nn ix) (aT Nn ix) (m3 X xs (aT Nn ix) sc cl C s₂ H₂ fp)->aS (m3 X xs (aT Nn ix) sc cl C s₂ H₂ fp) G H0 e te)(D:oQ Nn Cn ix xs sc=true:=by decide +kernel)(U:‹X.calm=true›)(Y:∀cl C s₂ H₂ fp,(assignEach es (m3 X xs (aT Nn ix) sc cl C s₂ H₂ fp).env).length=xs.length:=by intros;rfl)(S:∀cl C s₂ H₂ fp,(assignEach es (m3 X xs (aT Nn ix) sc cl C s₂ H₂ fp).env).findIdx? (·.1)=none:=by intros;rfl)(Z:∀v,foldedSetIterable a X.env v=pure v:=by intro _;rfl) :
  fW X G H0 (.ListComp e [⟨.Tuple es k p1,a,[],0⟩] sc pos) (sF xs.length fi ix b_ te) :=
 ⟨(Ij (JQ an D) U hi.out (λcl C s₂ H₂ fp=>z9 (X:=X) rfl) (λcl C s₂ H₂ fp=>fZ (X:=X) rfl (λG H0=>I cl C s₂ H₂ fp G H0 (Dp D).1)) (λcl C s₂ H₂ fp=>Bz (X:=m3 X xs (aT Nn ix) sc cl C s₂ H₂ fp) U (V cl C s₂ H₂ fp (Dp D).2) (Y cl C s₂ H₂ fp) (S cl C s₂ H₂ fp)) Z).imp JT⟩
section
variable (P:Program) (w:World)
end
section
variable {X:Cx} {CX:hY} {k:Nat} {f C:Addr} {fd:FuncData} {ps ks:h6} {sp:Sp} {E:XK} {x m:Str} {p pos apos kpos:Pos} {e o:Expr} {es:j0} {kws:List Keyword} {te ta:TE} {t tk:TA} {nm:ka}
variable {g:h7->h7->h7} {gV:kv->kv->kv}
end
section
variable {κ:Type} [DecidableEq κ]
def fL(kvs:List (κ×V))(k:κ):Option V:=(kvs.find? λD=>decide (D.1=k)).map (·.2)
def Dt{p:κ×V}{r:List (κ×V)}{k:κ}(e:p.1=k):fL (p::r) k=↑p.2:=by simp[fL,jw,e]
def Du{p:κ×V}{r:List (κ×V)}{k:κ}(e:¬p.1=k):fL (p::r) k=fL r k:=by simp[fL,jw,e]
def eQ.getD{o:Option V}{u:h8}{d:V}{d':Value}(r:eQ o u)(D:RelV d d'):RelV (o.getD d) (u.getD d'):=by
 cases o with
 |none=>cases u with
   |none=>exact D |some _=>exact(show False from r).elim
 |some _=>cases u with
   |none=>exact(show False from r).elim |some _=>exact r
def KV.val{kvs:List (κ×V)}{vs:List (κ×Value)}(r:KV kvs vs)(k:κ):eQ (fL kvs k) (valueAt vs k):=by
 unfold KV at r;induction r with
 |nil=>exact True.intro | @cons p q ps qs h t ih =>
   obtain⟨h1,h2⟩:=h;by_cases e:p.1=k
   ·have e':q.1=k:=h1.symm.trans e
    have b:valueAt (q::qs) k=↑q.2:=by simp[valueAt,jw,e']
    rw[Dt e,b];exact h2
   ·have e':¬q.1=k:=λz=>e (h1.trans z)
    have b:valueAt (q::qs) k=valueAt qs k:=by simp[valueAt,jw,e']
    rw[Du e,b];exact ih
def KV.length{kvs:List (κ×V)}{vs:List (κ×Value)}(r:KV kvs vs):kvs.length=vs.length:=Paired.length r
end
variable{u:Value}
def Dv{k:dS}(r:RelV (kV k) u):(qd P w).is k u=true:=by
 cases k with
 |inl i=>obtain⟨t,e⟩:=(show ∃t,u=Value.int i t from r);subst e;exact Bt P w i t
 |inr x=>obtain⟨t,e⟩:=(show ∃t,u=Value.str x t from r);subst e;exact Gh P w x t
def Dw{P:Program}{w:World}:∀ {ks:List dS} {us:h7},aN (ks.map kV) us->ItemsAre (qd P w) ks us
 | [],_,r=>by rw[dw] at r;cases r;exact .nil
 |k::ks,_,r=>by
   rw[b9] at r;cases r with
   |cons h t=>exact .cons (Dv h) (Dw t)
abbrev KT(H:Hp):List (List dS×V)->List (List dS×Addr×Value)->Prop:=Paired λp q=>p.1=q.1/\H q.2.1=↑(.tup (p.1.map kV))/\RelV p.2 q.2.2
variable{kvs:List (List dS×V)}
def KT.val{xs:List (List dS×Addr×Value)}(r:KT H kvs xs)(k:List dS):eQ (fL kvs k) ((atKey xs k).map (·.2)):=by
 induction r with
 |nil=>exact True.intro | @cons p q ps qs h t ih =>
   obtain⟨h1,_,h2⟩:=h;by_cases e:p.1=k
   ·have e':q.1=k:=h1.symm.trans e
    have b:atKey (q::qs) k=↑q.2:=by simp[atKey,jw,e']
    rw[Dt e,b];exact h2
   ·have e':¬q.1=k:=λz=>e (h1.trans z)
    have b:atKey (q::qs) k=atKey qs k:=by simp[atKey,jw,e']
    rw[Du e,b];exact ih
variable{a:Addr}
def Dx{u:HO}(ok:eY P w H h)(e:Rd H a u):bQ P w H h a u:=e.ok ok
def Dy{kvs:List (dS×V)}(ok:eY P w H h)(e:Rd H a (.dK kvs)):kvs.length<=sizeLine/\(a==sysModules)=false/\∃vs,KV kvs vs/\h.DictOf (qd P w) a vs :=
 show bQ P w H h a (.dK kvs) from Dx ok e
def Dz{ks:List dS}(ok:eY P w H h)(e:H a=↑(.tup (ks.map kV))):(tupleKind (qd P w)).is h ks a:=by
 obtain⟨_,its,r,o,h1,h2,n,D⟩:=(show bQ P w H h a (.tup (ks.map kV)) from ok a _ e);exact⟨o,its.toArray,n,h1,h2,D,by simpa using Dw r⟩
def D0(ok:eY P w H h)(e:Rd H a (.dT kvs)):kvs.length<=sizeLine/\(a==sysModules)=false /\
  ∃xs,KT H kvs xs/\h.DictOfH (tupleKind (qd P w)) a xs:=by
 obtain⟨z,y,xs,r,o,es,D,h1,h2,I,S,U⟩:=(show bQ P w H h a (.dT kvs) from Dx ok e);refine⟨z,y,xs,r,o,es,D,h1,h2,I,S,λx hx=>?_,U⟩;have all:∀ {l:List (List dS×V)} {m:List (List dS×Addr×Value)},KT H l m->∀x∈m,(tupleKind (qd P w)).is h x.1 x.2.1:=by
  intro l m q;induction q with
  |nil=>intro x hx;exact nomatch hx
  | @cons p q ps qs hq t ih =>
    intro x hx;rcases b6.mp hx with e |hx
    ·subst e
     exact Dz ok (by rw[<-hq.1];exact hq.2.1)
    ·exact ih x hx
 exact all r x hx
def hG(H:Hp)(a:Addr)(y:V)(r:Option V):Prop :=
 (∃kvs k,Rd H a (.dK kvs)/\y=kV k/\r=fL kvs k)\/∃kvs k b,Rd H a (.dT kvs)/\y=.ref b/\H b=↑(.tup (k.map kV))/\r=fL kvs k
protected def hG.k{H:Hp}{a:Addr}{kvs:List (dS×V)}{k:dS}(e:H a=↑(.dK kvs)):hG H a (kV k) (fL kvs k):=.inl ⟨kvs,k,.inl e,rfl,rfl⟩
def Inv.big(I:Inv X pins σ H s):sysModules<s.heap.objs.size:=by
 have h:mainGlobals<s.heap.objs.size:=(I.mod.glob.keeps I.bk).lt;exact su (by decide) h
variable{y:V}{E:Value->Shared->Prop}
def JU(d:A.units+1<cLine)(I:Inv X pins σ H s)(g:hG H a y ↑v)(c:RelV y u)(h:∀U s',Inv X pins σ H s'->RelV v U->Q U s') :
  wpAny (model X.prog X.w) A (getItem (.ref a) u) Q E s:=by
 rcases g with⟨kvs,k,e,V,l⟩ | ⟨kvs,k,b,e,V,eb,l⟩
 ·subst V
  obtain⟨z,hd,vs,D,dd⟩:=Dy I.hok e;obtain⟨U,Y,S⟩:=eQ.some_of (v:=v) (o:=valueAt vs k) (by rw[l];exact D.val k);exact wpAny_getItem_of (Dv c) dd.mapOf Y (h U _ (I.tok _) S)
 ·subst V
  cases (show u=Value.ref b from c);obtain⟨z,hd,xs,D,dd⟩:=D0 I.hok e;obtain⟨U,Y,S⟩:=eQ.some_of (v:=v) (o:=(atKey xs k).map (·.2)) (by rw[l];exact D.val k);obtain⟨p,f,Z⟩:=fq.mp Y;refine wpAny_getItem_heap (tupleKind_room_in1 d) (Dz I.hok eb) dd f ?_;rw[Z];exact h U _ (I.tok _) S
def JW{h':Heap}{kvs:List (dS×V)}{vs:List (dS×Value)}(z:kvs.length<=sizeLine)(hd:(a==sysModules)=false)(D:KV kvs vs)(dd:h'.DictOf (qd P w) a vs) :
  bQ P w H' h' a (.dK kvs):=⟨z,hd,vs,D,dd⟩
def lF(i:Expr):Prop:=∀D I,subscripted i false D I=operate [D,I] (getItem D I)
def JY{env:Env}{value D:Expr}{T id:String}(Z:typeLookup (.type T) "__getitem__" = pure ↑(.builtin id))(a:lF D)(h:wpAny (model prog w) A (eval value env) (λo S=>wpAny (model prog w) A (eval D env) (λi s₂=>s₂.TypeIs o T/\wpAny (model prog w) A (getItem o i) Q E s₂) E S) E s) :
  wpAny (model prog w) A (eval (.Subscript value D pos) env) Q E s:=by
 refine Subscript_ (ir h (λo S h₁=>ir h₁ (λi s₂ I=>?_) λ_ _ x=>x) λ_ _ x=>x);obtain⟨hT,I⟩:=I;unfold subscriptTail;refine au ?_;rw[getitemInPython_of_ne hT.not_modules];refine au (wpAny_specialOf hT Z ?_);have V:wpAny (model prog w) A (subscripted D false o i) (λr U=>wpAny (model prog w) A (letTemporaryGo value o r >>= λ_=>pure r) Q E U) E s₂:=by
  rw[a o i];exact wpAny_operating (ir I (λr U Y=>au (wpAny_letTemporaryGo (cz Y))) λ_ _ x=>x)
 first
  |exact cz (au V)
  |exact au (cz (au V))
  |exact au V
variable{o:Expr}
def JZ{o:Option V}(I:Inv X pins σ H s)(g:hG H a y o):s.TypeIs (.ref a) "dict":=by
 rcases g with⟨kvs,k,e,_,_⟩ | ⟨kvs,k,b,e,_,_,_⟩
 ·obtain⟨_,_,vs,_,dd⟩:=Dy I.hok e
  exact dd.typeIs
 ·obtain⟨_,_,xs,_,dd⟩:=D0 I.hok e
  exact dd.typeIs
def J_(td ty:TE):TE:=λσ H Q=>td σ H λx H1=>ty σ H1 λy H2=>∃a v,x=.ref a/\hG H2 a y ↑v/\Q v H2
variable{i:Expr}{td ty:TE}
def Ka(V:X.A.units+1<cLine)(Y:PE X o td)(hi:PE X i ty)(Z:lF i):PE X (.Subscript o i pos) (J_ td ty):=by
 intro pins s σ H Q I h;refine JY PySem.F.slot_dict_getitem.lookup Z (bK (Y pins s σ H _ I h) λu b D=>?_);obtain⟨x,H1,c,d,e⟩:=D;refine bK (hi pins b σ H1 _ c e) λl s2 D=>?_;obtain⟨y,H2,U,f,a,v,ex,g,j⟩:=D;subst ex;obtain rfl:u=Value.ref a:=d;exact⟨JZ U g,JU V U g f λm n k S=>⟨v,H2,k,S,j⟩⟩
structure M1 (X:Cx) (o:Expr) (m:Str) (apos:Pos) (e:Expr) (cpos:Pos):Prop where
 base:attributeBase o m X.env (eval o X.env)=eval o X.env
 few:((backTo cpos (starEach [e] X.env)).all (λx=>!x.1) && (backToKw cpos (keywordEach [] X.env)).all (λx=>x.1.isSome)
  && decide (([e]:j0).length+([]:List Keyword).length+(if ([]:List Keyword).isEmpty then 0 else 1)<30))=true
 line:(apos.endLine==cpos.line)=true
 trees:backTo cpos (starEach [e] X.env)=[(false,eval e X.env)]
structure M2 (X:Cx) (o:Expr) (m:Str) (apos:Pos) (e f:Expr) (cpos:Pos):Prop where
 base:attributeBase o m X.env (eval o X.env)=eval o X.env
 few:((backTo cpos (starEach [e,f] X.env)).all (λx=>!x.1) && (backToKw cpos (keywordEach [] X.env)).all (λx=>x.1.isSome)
  && decide (([e,f]:j0).length+([]:List Keyword).length+(if ([]:List Keyword).isEmpty then 0 else 1)<30))=true
 line:(apos.endLine==cpos.line)=true
 trees:backTo cpos (starEach [e,f] X.env)=[(false,eval e X.env),(false,eval f X.env)]
end L2
namespace Att
open PySem PySem.W PySem.Calls PyProof.Rows
end Att
namespace L2
open PySem PySem.Spec PyProof.Rows
section
variable {κ:Type} [DecidableEq κ]
end
def Kb:typeLookup (.type "list") "keys" = pure none:=by rw[typeLookup_type,builtinLookup_eq_fast];kernel_rfl
variable{n:Nat}{sl:Array h8}{prog:Program}{w:World}{A:Around}{E:Value->Shared->Prop}{s:Shared}{a:Addr}
theorem Kc{Q:h8->Shared->Prop}{its:kn}(V:A.handled=none)(U:s.heap.get? a=↑⟨.type "list",none,.seq its n,sl⟩)(Y:∀h' tk,(∀b o,s.heap.get? b=↑o->h'.get? b=↑o)->Q none { s with heap:=h',toks:=tk }):wpAny (model prog w) A (getAttr? (.ref a) "keys") Q E s:=by
 obtain⟨S,g,d,tk,os⟩:=s;have hT:∀D,(⟨S,g,d,D,os⟩:Shared).TypeIs (.ref a) "list":=λ_=>⟨_,U,rfl⟩;have c:=sub_AttributeError;have f:=F.slot_list_getattribute.lookup;have h:=F.slot_list_getattribute.bind (.ref a);have i:=am_list_getattr_none;unfold getAttr? getAttrBy? getAttrBy;repeat (any_goals (first |assumption |exact hT _ |wp_step))
 refine ji (l4 (R:=λr s'=>∃h' D e,r=.error (.ref e)/\Heap.NewAttrErr S h' e (.ref a) "keys"/\s'=⟨h',g,d,D,os⟩) F.slot_list_getattribute.plain am_entry_list_getattribute (F.slot_list_getattribute.check _ _ _ _ _ _ _ _ (hT _) (F.args_list_getattribute_2 _ _)
  (meets_getattribute_miss_list a its n sl "keys" tk Kb (by decide) (by size_fits) prog w A (λr s'=>∃h' D e,r=.error (.ref e)/\Heap.NewAttrErr S h' e (.ref a) "keys"/\s'=⟨h',g,d,D,os⟩) _ ⟨U,V,λh' D e I=>⟨h',D,e,rfl,I,rfl⟩⟩))) λr s' Z=>?_
 obtain⟨h',D,e,rfl,I,rfl⟩:=Z;obtain⟨t',j,k⟩:=I.there;show wpAny _ _ (getattributeRaised _ _ _ _ _ _ _) _ _ _;unfold getattributeRaised;repeat (any_goals (first |assumption |wp_step))
 exact Y h' D I.keeps
def D1:entryFor table "dict.update.loop" = ↑Builtin.«dict.update.loop»:=entryFor_of_tree (by kernel_rfl)
abbrev mH:=Addr×Int×Tok×Value
def D2{d it l:Addr}{R:Result->Shared->Prop}(all:List mH)(g:(all.map (·.2.1)).Nodup)(S:all.length<=sizeLine)(u:it≠l)(c:d≠it)(v:d≠l)(f:∀p∈all,p.1≠it/\p.1≠d) :
  ∀(I pre:List mH) (A:Around) (s:Shared),all=pre++I->A.handled=none->s.heap.IsListIter it l pre.length->s.heap.IsList l (all.map λp=>Value.ref p.1).toArray->(∀p∈all,s.heap.IsTuple p.1 #[.int p.2.1 p.2.2.1,p.2.2.2]) ->
   s.heap.DictOf (qd prog w) d (pre.map λp=>(Sum.inl p.2.1,p.2.2.2)) ->
   (∀h' tk,h'.DictOf (qd prog w) d (all.map λp=>(Sum.inl p.2.1,p.2.2.2))->(∀b o,b≠d->b≠it->s.heap.get? b=↑o->h'.get? b=↑o)->R (.ok (.ret .none)) { s with heap:=h',toks:=tk }) ->
   codeAny (model prog w) A (.builtin "dict.update.loop" ⟨[.ref d,.ref it,rawInt pre.length,.none],[]⟩) R s
 | [],pre,A,s,he,hh,hit,hl,ht,hd,hR=>by
   refine qf D1 ?_;rw[Around.under_plain rfl rfl];unfold Builtin.«dict.update.loop»;refine au (qm hh hit hl ?_ λh' y=>?_)
   ·rw[he];simp
   ·exact au (cz (cz (hR h' s.toks (by rw[he,du];exact hd.extBut y c) λb o _ H e=>y b o H e)))
 |p::I,pre,A,s,he,hh,hit,hl,ht,hd,hR=>by
   refine qf D1 ?_;rw[Around.under_plain rfl rfl];unfold Builtin.«dict.update.loop»;have h:p∈all:=by rw[he];simp
   refine au (pv hit hl (x:=.ref p.1) ?_ λh' U V=>?_)
   ·rw[he];simp
   ·have J:p∈all:=h
    obtain⟨o,B,K,m,i⟩:=(ht p h).extBut V.extBut (f p h).1;have j:h'.DictOf (qd prog w) d (pre.map λp=>(Sum.inl p.2.1,p.2.2.2)):=hd.extBut V.extBut c;have Y:¬((pre.map λp:mH=>((Sum.inl p.2.1:dS),p.2.2.2)).any λC=>decide (C.1=Sum.inl p.2.1))=true:=by
     intro z;obtain⟨C,k,e⟩:=List.any_eq_true.mp z;obtain⟨q,Z,rfl⟩:=f7.mp k;have e:q.2.1=p.2.1:=by simpa using e
     rw[he,cr,b9] at g;exact(sy.mp g).2.2 _ (f7.mpr ⟨q,Z,rfl⟩) _ bi e
    have n:stored (pre.map λp:mH=>((Sum.inl p.2.1:dS),p.2.2.2)) (Sum.inl p.2.1) p.2.2.2=(pre++[p]).map λp=>(Sum.inl p.2.1,p.2.2.2):=by
     unfold stored;rw[bw Y,cr];rfl
    refine au (fx (au (wpAny_tryCatch ?_)));unfold Builtin.Dict.pairItems;refine au (wpAny_typeOf (T:="tuple") ⟨o,B,K⟩ ?_);rw[am (by decide)];refine au (wpAny_seqItems B i (cz ?_));show wpAny _ _ (holding [.int p.2.1 p.2.2.1,p.2.2.2] (dictSet d (.int p.2.1 p.2.2.1) p.2.2.2)) _ _ _;refine fx (wpAny_dictSet_pairs (knd:=qd prog w) (Bt prog w p.2.1 p.2.2.1) j (λh2 a D=>?_) (by rw[ai];rw[he,ax] at S;omega));rw[n] at a;refine cz ⟨Code.quiet_builtin _ (by decide +kernel),?_⟩;have E:=D2 all g S u c v f I (pre++[p]) A { s with heap:=h2,toks:=s.toks+1 } (by rw[he];simp) hh
     (by rw[ax];exact U.extBut D.extBut c.symm) ((hl.extBut V.extBut u.symm).extBut D.extBut v.symm) (λq Z=>((ht q Z).extBut V.extBut (f q Z).1).extBut D.extBut (f q Z).2) a
     (λL tk r k3=>hR L tk r λb t F G e=>k3 b t F G (D.extBut b t F (V.extBut b t G e)))
    rw[ax,jd] at E;exact E
theorem Kd{l:Addr}{Q:Value->Shared->Prop}(all:List mH)(q:(all.map (·.2.1)).Nodup)(c:all.length<=sizeLine)(j:A.handled=none)(k:s.heap.get? l=↑⟨.type "list",none,.seq (all.map λp=>Value.ref p.1).toArray n,sl⟩)(m:∀p∈all,s.heap.IsTuple p.1 #[.int p.2.1 p.2.2.1,p.2.2.2])(h:∀h' tk,h'.DictOf (qd prog w) s.heap.objs.size (all.map λp=>(Sum.inl p.2.1,p.2.2.2))->(∀b o,s.heap.get? b=↑o->h'.get? b=↑o)->Q (.ref s.heap.objs.size) { s with heap:=h',toks:=tk }) :
  wpAny (model prog w) A (call (.type "dict") [.ref l]) Q E s:=by
 refine callType_codes (Q₁:=λobj S=>obj=.ref s.heap.objs.size/\S={ s with heap:=s.heap.push { cls:=.type "dict",data:=.dict #[] } }) F.kt_called_dict (F.kt_typeCall_dict_1 _) F.entry_dict_init (kt_code_dict_new _ ⟨rfl,rfl⟩) ?_;rintro obj S ⟨rfl,rfl⟩;have D:(s.heap.push { cls:=.type "dict",data:=.dict #[] }).DictOf (qd prog w) s.heap.objs.size []:=Heap.DictOf.new s.heap;refine⟨D.typeIs,F.args_dict_init_2 _ _,?_⟩;unfold Builtin.«dict.__init__»;refine au ?_;unfold Builtin.Dict.selfAndRest;refine au (wpAny_notOrdered_dict D.typeIs (show wpAny _ _ (pure (s.heap.objs.size,[Value.ref l])) _ _ _ from cz ?_));show wpAny _ _ (Builtin.Dict.updateFrom "dict.__init__" s.heap.objs.size (.ref l) [] .none) _ _ _;have U:(s.heap.push { cls:=.type "dict",data:=.dict #[] }).get? l=↑⟨.type "list",none,.seq (all.map λp=>Value.ref p.1).toArray n,sl⟩:=aq _ k;unfold Builtin.Dict.updateFrom;refine au (wpAny_typeOf (T:="list") ⟨_,U,rfl⟩ ?_);rw[am (by decide)];refine au (Kc (its:=(all.map λp=>Value.ref p.1).toArray) (n:=n) (sl:=sl) j U λh1 V k1=>?_);rw[am (show(none:h8).isNone=true from rfl)];refine au (wpAny_rule ?_);have Y:h1.IsList l (all.map λp=>Value.ref p.1).toArray:=⟨_,k1 _ _ U,rfl,n,rfl⟩;refine au (kr (s:={ s with heap:=h1,toks:=V }) Y ?_);refine cz ⟨Code.quiet_builtin _ (by decide +kernel),?_⟩;have I:s.heap.objs.size<h1.objs.size:=by
  obtain⟨o,_,_,Z,_⟩:=D;exact bj (k1 _ _ Z)
 have a:l<s.heap.objs.size:=bj k;have kp:∀b o,s.heap.get? b=↑o->(h1.push { cls:=.type "list_iterator",data:=.fields #[.ref l,.int 0 0] }).get? b=↑o:=λb o e=>aq _ (k1 b o (aq _ e));refine D2 (d:=s.heap.objs.size) (it:=h1.objs.size) (l:=l) all q c (j7 (su a I)) (bu I) (j7 a) (λp f=>?_) all [] A.in1 { s with heap:=h1.push { cls:=.type "list_iterator",data:=.fields #[.ref l,.int 0 0] },toks:=V } rfl j ⟨_,cx _ rfl,rfl,rfl⟩ (Y.push _) (λp f=>(m p f).at λo e=>kp _ o e) ?_ λt g i k3=>?_
 ·obtain⟨o,Z,_⟩:=m p f
  have:=bj Z;exact⟨bu (su this I),bu this⟩
 ·obtain⟨o,es,u,Z,r⟩:=D
  exact⟨o,es,u,aq _ (k1 _ _ Z),r⟩
 ·refine⟨rfl,h t g i λb o e=>?_⟩
  have lt:=bj e;exact k3 b o (bu lt) (bu (su lt I)) (kp b o e)
variable{X:Cx}
def D3{pins:kl}{s:Shared}{σ:St}{H:Hp}(I:Inv X pins σ H s):∀ys:List (Addr×Int×V),(∀y∈ys,eG X.K H y.1 [↥y.2.1,y.2.2]) ->
  ∃all:List mH,all.map (·.1)=ys.map (·.1)/\all.map (·.2.1)=ys.map (·.2.1)/\(∀p∈all,s.heap.IsTuple p.1 #[.int p.2.1 p.2.2.1,p.2.2.2])/\KV (ys.map λy=>((Sum.inl y.2.1:dS),y.2.2)) (all.map λp=>((Sum.inl p.2.1:dS),p.2.2.2))
 | [],_=>⟨[],rfl,rfl,λp hp=>by simp at hp,.nil⟩ |y::ys,h=>by
   obtain⟨all,h1,h2,D,S⟩:=D3 I ys λz U=>h z (bg _ U);obtain⟨its,r,pl,_⟩:=I.tuple (h y bi);obtain⟨u,v,rfl,Y,Z⟩:=rl r;obtain⟨t,rfl⟩:∃t,u=.int y.2.1 t:=Y;refine⟨(y.1,y.2.1,t,v)::all,by simp[h1],by simp[h2],λp hp=>?_,.cons ⟨rfl,Z⟩ S⟩;rcases b6.mp hp with rfl |hp
   ·exact pl
   ·exact D p hp
def D4:∀ {as:ia} {us:h7},aN (as.map V.ref) us->us=as.map Value.ref
 | [],_,.nil=>rfl |a::as,_,.cons r t=>by rw[D4 t];cases r;rfl
variable{a:Expr}
def Ke(c:X.calm=true):q9 X (.type "dict") (λxs H Q=>∃p,∃ys:List (Addr×Int×V),xs=[.ref p]/\dH X.K H p (ys.map λy=>V.ref y.1)/\(∀y∈ys,eG X.K H y.1 [↥y.2.1,y.2.2])/\(ys.map (·.2.1)).Nodup /\
  ∀a,H a=none->Q (.ref a) (aX H a (.dK (ys.map λy=>(Sum.inl y.2.1,y.2.2))))):=by
 intro pins s σ H xs us Q I r h;obtain⟨p,ys,rfl,d,f,g,q⟩:=h;obtain⟨u,rfl,i⟩:=xn r;cases i;obtain⟨its,Z,pl,b⟩:=I.list d;obtain⟨all,h1,h2,j,l⟩:=D3 I ys f;have e:its=all.map λp=>Value.ref p.1:=by
  have:ys.map (λy=>V.ref y.1)=(ys.map (·.1)).map V.ref:=by rw[gg];rfl
  rw[this] at Z;rw[D4 Z,<-h1,gg];rfl
 subst e;have D:all.length=ys.length:=by have:=congrArg List.length h1;simpa using this
 obtain⟨⟨oc,od,m,sl⟩,n,t,S,U,Y⟩:=pl;cases S;cases U;cases Y;refine Kd (n:=n) (sl:=sl) all (by rw[h2];exact g) (by rw[D];simpa using b) (I.ok.hd c) t j λh' tk hd k=>?_;refine⟨.ref s.heap.objs.size,_,I.laid (a:=s.heap.objs.size) (o:=.dK (ys.map λy=>(Sum.inl y.2.1,y.2.2))) (t':=tk) k (cw _) (JW (by simpa using b) (beq_eq_false_iff_ne.mpr (Ne.symm (bu I.big))) l hd),rfl,q _ (I.hok.fresh (cw _))⟩
def fM:k4->Option (List (Int×D))
 | []=>↑[] | .tup [↥k,d]::r=>(fM r).map ((k,d)::·) |_::_=>none
def oR:k4->k6
 | [.lst ds]=>(fM ds).bind λps=>if (ps.map (·.1)).Nodup then ↑(.dct (ps.map (·.1)) (ps.map (·.2))) else none
 |_=>none
def D5{K:kf}{H:Hp}{O:Addr->Prop}:∀ {ds:k4} {vs:kv} {ps:List (Int×D)},fM ds=↑ps->aL K H O ds vs ->
  ∃ys:List (Addr×Int×V),vs=ys.map (λy=>V.ref y.1)/\(∀y∈ys,eG K H y.1 [↥y.2.1,y.2.2])/\ys.map (·.2.1)=ps.map (·.1)/\aL K H O (ps.map (·.2)) (ys.map (·.2.2))
 | [],_,_,h,.nil=>by cases h;exact⟨[],rfl,λy hy=>by simp at hy,rfl,.nil⟩
 |d::ds,_,ps,h,.cons r t=>by
   unfold fM at h;split at h
   ·cases (by assumption:_::_=[])
   ·rename_i k d' S I
    cases I;cases e:fM ds with
    |none=>rw[e] at h;cases h
    |some ps' =>
      rw[e] at h;cases h;obtain⟨ys,h1,h2,U,Y⟩:=D5 e t;obtain⟨a,us,rfl,Z,S⟩:=r.tup_;obtain⟨u,v,rfl,b,c⟩:=rL S;cases b.int_;refine⟨(a,k,v)::ys,by rw[h1];rfl,λy hy=>?_,by simp[U],.cons c Y⟩;rcases b6.mp hy with rfl |hy
      ·exact eG.of Z
      ·exact h2 y hy
   ·cases h
def D6:∀ys:List (Addr×Int×V),(ys.map λy=>((Sum.inl y.2.1:dS),y.2.2))=nZ (ys.map (·.2.1)) (ys.map (·.2.2))
 | []=>rfl |y::ys=>by rw[b9,D6 ys];rfl
variable{G:Gd}{H0:Hp}
def Kf:wf X G H0 (λxs H Q=>∃p,∃ys:List (Addr×Int×V),xs=[.ref p]/\dH X.K H p (ys.map λy=>V.ref y.1)/\(∀y∈ys,eG X.K H y.1 [↥y.2.1,y.2.2])/\(ys.map (·.2.1)).Nodup /\
  ∀a,H a=none->Q (.ref a) (aX H a (.dK (ys.map λy=>(Sum.inl y.2.1,y.2.2))))) oR:=by
 intro W env σ H vs ds d Q ok r e k;unfold oR at e;split at e;case h_2=>cases e
 rename_i I;cases e1:fM I with
 |none=>rw[e1] at e;cases e
 |some ps =>
   rw[e1,ac] at e;split at e;case isFalse=>cases e
   rename_i S;cases e;obtain⟨v,rfl,U⟩:=ui r;obtain⟨l,us,rfl,h,Y⟩:=U.lst_;obtain⟨ys,rfl,h2,D,Z⟩:=D5 e1 Y;refine⟨l,ys,rfl,h.sq,h2,by rw[D];exact S,λa c=>?_⟩;have sm:bC H (aX H a (.dK (ys.map λy=>(Sum.inl y.2.1,y.2.2)))):=λb o e=>by rw[i4 (ql e c)];exact e
   have st:Step W H W (aX H a (.dK (ys.map λy=>(Sum.inl y.2.1,y.2.2)))):=Step.same sm;refine k _ _ st (ok.same sm) (.dct (vs:=ys.map (·.2.2)) ?_ (ok.reps st Z));rw[md,D6,D]
def Kg:bootBuiltins "dict" = ↑(.type "dict"):=by decide +kernel
variable{b e:Expr}{F:FA}{pos p':Pos}
def D7(I:e_ X G H0 [e] F)(S:‹X.calm=true›)(D:Bn X "dict":=by walk_at "b")(U:‹starEach [e] X.env=(false,eval e X.env)::starEach [] X.env›):aS X G H0 (.Call (.Name "dict" p') [e] [] pos) (d5 oR F) :=
 xB (Ke S) Kf D.g D.m Kg I (by decide) (by decide) U rfl
variable{i:Nat}
def z7:ik->k4->Int->k6
 |k::ks,d::ds,i=>if k=i then ↑d else z7 ks ds i
 |_,_,_=>none
def uh:D->D->k6 | .dct ks ds,.int i=>z7 ks ds i |_,_=>none
def D8{K:kf}{H:Hp}{O:Addr->Prop}{i:Int}{d:D}:∀ {ks:ik} {ds:k4} {vs:kv},aL K H O ds vs->z7 ks ds i=↑d->∃v,fL (nZ ks vs) (Sum.inl i)=↑v/\bB K H O d v
 | [],_,_,_,h=>by simp[z7] at h |k::ks,_,_,.nil,h=>by simp[z7] at h |k::ks,_,_,.cons (v:=v) r t,h=>by
   unfold z7 at h;by_cases e:k=i
   ·rw[am e] at h;cases h
    exact⟨v,by simp[nZ,fL,e],r⟩
   ·rw[bw e] at h
    obtain⟨w,h1,h2⟩:=D8 t h;refine⟨w,?_,h2⟩;rw[<-h1];simp[nZ,fL,e]
variable{x:Str}
def Kh:fX X G H0 (λx y H Q=>∃a v,x=.ref a/\hG H a y ↑v/\Q v H) uh:=by
 intro W env σ H x y S U d Q ok D I e k;unfold uh at e;split at e;case h_2=>cases e
 rename_i ks ds i;cases I.int_;cases D with
 | @dct a _ vs _ ha rr =>
   obtain⟨v,h1,h2⟩:=D8 rr e;exact⟨a,v,rfl,by rw[<-h1];exact hG.k (k:=Sum.inl i) ha,k v H Step.refl ok h2⟩
variable{f g:FE}
def mI{jr:Nat}(D:bA jr X.A)(I:aS X G H0 a f)(S:aS X G H0 b g)(U:lF b:=by intro _ _;rfl):aS X G H0 (.Subscript a b pos) (aD uh f g) :=
 ⟨(Ka (Cj D) I.out S.out U).imp (o0 (r:=λx y H Q=>∃a v,x=.ref a/\hG H a y ↑v/\Q v H) Kh)⟩
end L2
namespace L2
open PySem
theorem D9{i:Nat}{g:FS}(P:Nat->aP->Prop):∀(ds:k4) (e:aP) (n:Nat),P n e->(∀(k:Nat) (d:D) (e:aP),ds[k]?=↑d->P (n+k) e->∃e',g (e.set i ⇑d)=↑(.nx,e')/\P (n+k+1) e') ->
  ∃e',cF i g ds e=↑(.nx,e')/\P (n+ds.length) e'
 | [],e,n,h,_=>⟨e,rfl,h⟩ |d::r,e,n,h,hs=>by
   obtain⟨I,h1,p1⟩:=hs 0 d e rfl h;obtain⟨S,h2,p2⟩:=D9 P r I (n+1) p1 λk d' e' U V=>by
    have:=hs (k+1) d' e' (by simpa using U) (by rw[<-Nat.add_assoc,Nat.add_right_comm];exact V);rw[show n+(k+1)+1=n+1+k+1 by lia] at this;exact this
   refine⟨S,?_,by rw[ao,show n+(r.length+1)=n+1+r.length by lia];exact p2⟩;simp[cF,h1,h2]
variable{i:Int}{g:FS}
def u4{i:Nat}(P:Nat->aP->Prop)(ds:k4)(e:aP)(h:P 0 e)(I:∀(k:Nat) (d:D) (e:aP),ds[k]?=↑d->P k e->∃e',g (e.set i ⇑d)=↑(.nx,e')/\P (k+1) e') :
  ∃e',cF i g ds e=↑(.nx,e')/\P ds.length e':=by
 obtain⟨e',h1,h2⟩:=D9 P ds e 0 h λk d e S U=>by
  obtain⟨e',V,Y⟩:=I k d e S (by simpa using U);exact⟨e',V,by simpa using Y⟩
 exact⟨e',h1,by simpa using h2⟩
variable{lo:Int}{n:Nat}{d:D}
def uv{k:Nat}(h:(bS lo n)[k]?=↑d):d=.int (lo+k)/\k<n:=by
 unfold bS at h;rw[cb] at h;by_cases D:k<n
 ·rw[List.getElem?_range D] at h
  exact⟨(b8 h).symm,D⟩
 ·rw[dq (by simpa using D)] at h;cases h
def x8:(bS lo n).length=n:=by simp[bS]
theorem uu(h:-1000000000000<i/\i<1000000000000):pk i:=⟨by lia,by lia⟩
variable{α:Type}
theorem Ki{xs:List α}(I:0<=i)(h1:i<xs.length):∃x,bG xs i=↑x/\xs[i.toNat]?=↑x:=by
 have D:i.toNat<xs.length:=by lia
 exact⟨xs[i.toNat],by unfold bG eI;rw[am I,am h1];simp[D],by simp[D]⟩
def mf{ar:Nat}{ds:k4}{e':aP}(h:ds.length=ar)(I:g (ki n ds)=↑(.rt d,e')):aR n ar g ds=↑d:=by
 unfold aR;rw[am h,I]
def few(h:n<=1000000):cI n:=d7 h (by decide)
theorem qb(n:Nat)(D:n<=1000000):fP [↥n]=↑(bS 0 n):=by
 unfold fP;dsimp only;rw[am (show iW _ _ _ from⟨by lia,by lia⟩),iy]
variable{j:Int}
def DA(h:pk j):cN ↥i ↥j=↑↥(i*j):=by
 unfold cN;dsimp only;rw[am (.inr h)]
def mJ(h:pk i):cN ↥i ↥j=↑↥(i*j):=by
 unfold cN;dsimp only;rw[am (.inl h)]
def wt(h:0<j):bF ↥i ↥j=↑↥(i % j):=by
 unfold bF;dsimp only;rw[am h]
theorem y8(h:0<j)(h2:j<1073741824):cK ↥i ↥j=↑↥(i / j):=by
 unfold cK;dsimp only;rw[am (show iW _ _ _ from⟨by lia,h2⟩)]
def qz{α:Type}{te:FE}{base:aP}(φ ψ:α->D):∀(xs:List α),(∀x∈xs,∃e',te (⇑(φ x)::base)=↑(ψ x,e'))->rg b_ te base (xs.map φ)=↑(xs.map ψ)
 | [],_=>rfl |x::xs,h=>by
   obtain⟨e',I⟩:=h x bi;have S:=qz φ ψ xs λy U=>h y (bg _ U);simp[rg,I,S]
def oS{α:Type}{tt:FT}{te:FE}{base:aP}(φ ψ:α->D)(p:α->Bool):∀(xs:List α),(∀x∈xs,∃I,tt (⇑(φ x)::base)=↑(p x,I)/\(p x=true->∃e',te I=↑(ψ x,e')))->rg tt te base (xs.map φ)=↑((xs.filter p).map ψ)
 | [],_=>rfl |x::xs,h=>by
   obtain⟨I,h1,h2⟩:=h x bi;have S:=oS φ ψ p xs λy U=>h y (bg _ U);cases hp:p x with
   |false =>
     simp[rg,h1,S,List.filter_cons,hp]
   |true =>
     obtain⟨e',V⟩:=h2 hp;simp[rg,h1,V,S,List.filter_cons,hp]
def DB{α:Type}{te:FA}{base:aP}(φ:α->D)(ψ:α->k4):∀(xs:List α),(∀x∈xs,∃e',te (⇑(φ x)::base)=↑(ψ x,e'))->oI te base (xs.map φ)=↑(xs.map ψ)
 | [],_=>rfl |x::xs,h=>by
   obtain⟨e',I⟩:=h x bi;have S:=DB φ ψ xs λy U=>h y (bg _ U);simp[oI,I,S]
def Kj(a b c:D):bG [a,b,c] 0=↑a:=rfl
def sG(a b c:D):bG [a,b,c] 1=↑b:=rfl
def oU(a b c:D):bG [a,b,c] 2=↑c:=rfl
def Kk(a b c d:D):bG [a,b,c,d] 2=↑c:=rfl
def Kl(a b c d:D):bG [a,b,c,d] 3=↑d:=rfl
def DC{α:Type}{i:Nat}{g:FS}(φ:α->D)(P:List α->aP->Prop)(all:List α)(I:∀(p:List α) (x:α) (q:List α) (e:aP),all=p++x::q->P p e->∃e',g (e.set i ⇑(φ x))=↑(.nx,e')/\P (p++[x]) e') :
  ∀(xs pre:List α) (e:aP),all=pre++xs->P pre e->∃e',cF i g (xs.map φ) e=↑(.nx,e')/\P all e'
 | [],pre,e,h,hp=>⟨e,rfl,by rw[h,du];exact hp⟩ |x::xs,pre,e,h,hp=>by
   obtain⟨S,h1,p1⟩:=I pre x xs e h hp;obtain⟨U,h2,p2⟩:=DC φ P all I xs (pre++[x]) S (by rw[h];simp) p1;exact⟨U,by simp[cF,h1,h2],p2⟩
def oV{i:Nat}(φ:α->D)(P:List α->aP->Prop)(all:List α)(e:aP)(I:P [] e)(S:∀(p:List α) (x:α) (q:List α) (e:aP),all=p++x::q->P p e->∃e',g (e.set i ⇑(φ x))=↑(.nx,e')/\P (p++[x]) e') :
  ∃e',cF i g (all.map φ) e=↑(.nx,e')/\P all e':=DC φ P all S all [] e rfl I
end L2
namespace L2
open PySem PySem.Spec PyProof.Rows PySem.W
abbrev Ag:=AK×k7
abbrev k9:=List Ag
abbrev la:=Option (D×List Ag)
def kQ(x:Ag)(j:Nat):Sl:=.ag x.1 ↑j x.2
def dV(env:aP):ic->Option k9
 | []=>↑[] |i::r=>match env[i]? with |some ↑(.ag k _ ps)=>(dV env r).map λt=>(k,ps)::t |_=>none
def dJ(env:aP):ic->k9->aP
 |i::r,x::t=>match env[i]? with |some ↑(.ag _ l _)=>dJ (env.set i ↑(.ag x.1 l x.2)) r t |_=>dJ env r t
 |_,_=>env
def re(ags:k9):aP:=ags.zipIdx.map λp=>↑(kQ p.1 p.2)
variable{env:aP}
def y7:∀ {is:ic} {ags:k9} {j i:Nat},dV env is=↑ags->is[j]?=↑i->∃x l,ags[j]?=↑x/\env[i]?=↑↑(.ag x.1 l x.2)
 |a::r,ags,j,i,h,e=>by
   unfold dV at h;split at h
   ·rename_i k l ps q
    cases h2:dV env r with
    |none=>rw[h2] at h;cases h
    |some t =>
      rw[h2] at h;cases h;cases j with
      |zero=>simp at e;subst e;exact⟨(k,ps),l,rfl,q⟩
      |succ j=>obtain⟨x,l',D,I⟩:=y7 h2 (by simpa using e);exact⟨x,l',by simpa using D,I⟩
   ·cases h
def mK:∀ {is:ic} {ags:k9},dV env is=↑ags->ags.length=is.length
 | [],_,h=>by cases h;rfl
 |a::r,ags,h=>by
   unfold dV at h;split at h
   ·cases h2:dV env r with
    |none=>rw[h2] at h;cases h
    |some t=>rw[h2] at h;cases h;rw[ao,ao,mK h2]
   ·cases h
def yF:∀ {is:ic} {ags:k9} {env:aP},(dJ env is ags).length=env.length
 | [],_,_=>by simp[dJ] |a::r,[],_=>by simp[dJ] |a::r,x::t,env=>by
   unfold dJ;split
   ·rw[yF,d6]
   ·rw[yF]
def sH:∀ {is:ic} {ags:k9} {env:aP} {i:Nat},i∉is->(dJ env is ags)[i]?=env[i]?
 | [],_,_,_,_=>by simp[dJ] |a::r,[],_,_,_=>by simp[dJ] |a::r,x::t,env,i,h=>by
   have h1:a≠i:=λz=>h (by simp[z]);have h2:i∉r:=λz=>h (by simp[z]);unfold dJ;split
   ·rw[sH h2,dy h1]
   ·rw[sH h2]
def yG:∀ {is:ic} {ags:k9} {env:aP} {j i:Nat} {x:Ag} {k:AK} {l:Option Nat} {ps:k7},is.Nodup->is[j]?=↑i->ags[j]?=↑x->env[i]?=↑↑(.ag k l ps)->(dJ env is ags)[i]?=↑↑(.ag x.1 l x.2)
 |a::r,y::t,env,j,i,x,k,l,ps,nd,e1,e2,e3=>by
   cases j with
   |zero =>
     simp at e1 e2;subst e1;subst e2;unfold dJ;rw[e3];rw[sH (ci.mp nd).1,fb (aj.mp e3).1]
   |succ j =>
     have hi:a≠i:=λz=>by subst z;exact(ci.mp nd).1 (bh (by simpa using e1))
     unfold dJ;split
     ·exact yG (ci.mp nd).2 (by simpa using e1) (by simpa using e2) (by rw[dy hi];exact e3)
     ·exact yG (ci.mp nd).2 (by simpa using e1) (by simpa using e2) e3
variable{ags:k9}{j:Nat}{s:Stmt}
def sI{s:Sl}(h:(re ags)[j]?=↑↑s):∃x,ags[j]?=↑x/\s=kQ x j:=by
 unfold re at h;rw[cb,List.getElem?_zipIdx] at h;cases e:ags[j]? with
 |none=>rw[e] at h;cases h
 |some x=>rw[e] at h;cases h;exact⟨x,rfl,by simp⟩
def DE:(re ags).length=ags.length:=by simp[re]
def fN(H:Hp)(W:Addr->Prop):Hp:=λa=>open Classical in if W a then none else H a
variable{a:Addr}{W:Addr->Prop}{H:Hp}
def yH(h:W a):fN H W a=none:=am h
def DF(h:¬W a):fN H W a=H a:=bw h
variable{o:Expr}
def DG{o:HO}(h:fN H W a=↑o):¬W a/\H a=↑o:=by
 by_cases z:W a
 ·rw[yH z] at h;cases h
 ·rw[DF z] at h;exact⟨z,h⟩
def DH(h:fN H W a=none):W a\/H a=none:=by
 by_cases z:W a
 ·exact .inl z
 ·rw[DF z] at h;exact .inr h
def cO(H:Hp)(env:aP)(σ:St)(is:ic):Addr->Prop:=λa=>∃i s v,i∈is/\env[i]?=↑↑s/\σ[i]?=↑↑v/\bO H s v a
variable{is:ic}{K:kf}{G:Gd}{H0:Hp}{σ:St}
def Ok.lentW(ok:Ok K G H0 W env σ H)(h:cO H env σ is a):W a:=by
 obtain⟨i,s,v,_,e,I,o⟩:=h;obtain⟨S,D,q⟩:=ok.slot i s e;rw[I] at D;cases D;exact q.owns o
def wd(G:Gd)(W L:Addr->Prop)(r:Nat->ia):Gd:=⟨λa=>G a/\(W a->L a),r⟩
theorem Ok.lend(ok:Ok K G H0 W env σ H)(nd:is.Nodup)(f:dV env is=↑ags) :
  ∃(r:Nat->ia) (us:kv),us.length=is.length/\(∀(j i:Nat),is[j]?=↑i->∃u,us[j]?=↑u/\σ[i]?=↑↑u) /\
   (∀(j i:Nat) (k:AK) (l:Option Nat) (ps:k7),is[j]?=↑i->env[i]?=↑↑(.ag k l ps)->∃p as,us[j]?=↑(.ref p)/\jY k (r j) p as/\∀n,l=↑n->jY k (G.r n) p as) /\
   Ok K (wd G W (cO H env σ is) r) (fN H (cO H env σ is)) (cO H env σ is) (re ags) (us.map some) H:=by
 have E:∀a,cO H env σ is a->W a:=λa=>ok.lentW;have ex:∀j:Nat,∃t:ia×V,∀(i:Nat) (x:Ag) (l:Option Nat),is[j]?=↑i->ags[j]?=↑x->env[i]?=↑↑(.ag x.1 l x.2) ->
   σ[i]?=↑↑t.2/\∃p as us,t.2=.ref p/\jY x.1 t.1 p as/\W p/\(p::as).Nodup/\(∀n,l=↑n->jY x.1 (G.r n) p as)/\dZ K H x.1 p us/\aY K G W H x.2 as us:=λj=>by
  cases S:is[j]? with
  |none=>exact⟨([],.non),λi x l e=>by cases e⟩
  |some i =>
    obtain⟨x,l,h1,h2⟩:=y7 f S;obtain⟨v,I,p,as,us,U,X,L,hl,F,J⟩:=ok.slot i _ h2;refine⟨(match x.1 with | .ins true _ _=>[p] |_=>p::as,v),λM N l' z1 z2 z3=>?_⟩;cases z1;rw[h1] at z2;cases z2;rw[h2] at z3;cases z3;refine⟨I,p,as,us,U,?_,X,L,hl,F,J⟩;obtain⟨k,ps⟩:=x;cases k with
    |ls=>rfl |ins b c fs=>cases b <;> rfl
 obtain⟨t,Z⟩:=Classical.axiomOfChoice ex;have g:=mK f;refine⟨λj=>(t j).1,(List.range is.length).map λj=>(t j).2,by simp,λj i e=>?_,λj i k l ps I U=>?_,?_⟩
 ·have S:=(aj.mp e).1
  obtain⟨x,l,h1,h2⟩:=y7 f e;exact⟨_,by simp[S],(Z j i x l e h1 h2).1⟩
 ·have S:=(aj.mp I).1
  obtain⟨x,l',h1,h2⟩:=y7 f I;rw[U] at h2;cases h2;obtain⟨q1,p,as,us,y,O,_,_,q4,_⟩:=Z j i x l I h1 U;exact⟨p,as,by simp[S,y],O,q4⟩
 ·have own:∀ {j i:Nat} {x:Ag} {l:Option Nat},is[j]?=↑i->ags[j]?=↑x->env[i]?=↑↑(.ag x.1 l x.2)->∀a,bO H (kQ x j) (t j).2 a->cO H env σ is a:=λ{j i x l} I U A a o =>
   ⟨i,_,_,bh I,A,(Z j i x l I U A).1,o⟩
  have cv:∀ {d:D} {v:V},bB K H (Ow G W) d v->bB K H (Ow (wd G W (cO H env σ is) λj=>(t j).1) (cO H env σ is)) d v:=λr =>
   r.mono (λ_ _ h=>h) λa us o h=>⟨⟨⟨o.1,λz=>absurd z o.2⟩,λz=>o.2 (E a z)⟩,h⟩
  have P:∀ {d:k4} {v:kv},aL K H (Ow G W) d v->aL K H (Ow (wd G W (cO H env σ is) λj=>(t j).1) (cO H env σ is)) d v:=λr =>
   r.mono (λ_ _ h=>h) λa us o h=>⟨⟨⟨o.1,λz=>absurd z o.2⟩,λz=>o.2 (E a z)⟩,h⟩
  have pos:∀ {j:Nat} {s:Sl},(re ags)[j]?=↑↑s->∃i x l,is[j]?=↑i/\ags[j]?=↑x/\env[i]?=↑↑(.ag x.1 l x.2)/\s=kQ x j/\(((List.range is.length).map λj=>(t j).2).map some)[j]?=↑↑(t j).2:=λ{j s} e=>by
   obtain⟨x,h1,rfl⟩:=sI e;have S:j<is.length:=by rw[<-g];exact(aj.mp h1).1
   obtain⟨N,l,h2,Y⟩:=y7 f (show is[j]?=↑is[j] by simp[S]);rw[h1] at h2;cases h2;exact⟨is[j],x,l,by simp[S],h1,Y,rfl,by simp[S]⟩
  refine⟨λa o e=>(DG e).2,λa e=>?_,λa e=>⟨yH e,(ok.wl a (E a e)).2⟩,λj s e=>?_,λj j' s s' v v' a I U A e4 o1 o2=>?_,by rw[DE,ai,ai,j9,g]⟩
  ·rcases DH e with z |z
   ·exact⟨ok.good a (ok.wl a (E a z)).1,λ_=>z⟩
   ·exact⟨ok.good a (ok.stay.free z),λw=>by obtain⟨_,m,q⟩:=ok.wl a w;rw[z] at q;cases q⟩
  ·obtain⟨i,x,l,h1,h2,Y,rfl,Q⟩:=pos e
   obtain⟨q1,p,as,us,y,O,X,L,q4,F,J⟩:=Z j i x l h1 h2 Y;refine⟨_,Q,p,as,us,y,own h1 h2 Y p (.inl y),L,λn z=>by cases z;exact O,F,J.step (λa vs ha z=>⟨own h1 h2 Y a (.inr ⟨p,us,y,F.o,J.parts_iff.mpr ha⟩),z⟩) (λ_ _ r=>cv r) λ_ _ r=>P r⟩
  ·obtain⟨i,x,l,h1,h2,Y,rfl,Q⟩:=pos I
   obtain⟨M,N,l',B,R,C,rfl,T⟩:=pos U;rw[Q] at A;cases A;rw[T] at e4;cases e4;have:=ok.uniq i M _ _ _ _ a Y C (Z j i x l h1 h2 Y).1 (Z j' M N l' B R C).1 o1 o2;subst this;exact wZ nd h1 B
variable{us:kv}{W':Addr->Prop}{H':Hp}
theorem Ok.unlend(ok:Ok K G H0 W env σ H){I:k9}{r:Nat->ia}{env':aP}{T:St}(nd:is.Nodup)(hg:dV env is=↑ags)(hu:∀(j i:Nat),is[j]?=↑i->∃u,us[j]?=↑u/\σ[i]?=↑↑u)(X:∀(j i:Nat) (k:AK) (l:Option Nat) (ps:k7),is[j]?=↑i->env[i]?=↑↑(.ag k l ps)->∃p as,us[j]?=↑(.ref p)/\jY k (r j) p as/\∀n,l=↑n->jY k (G.r n) p as)(hl:I.length=is.length)(an:∀(j:Nat) (x y:Ag),ags[j]?=↑x->I[j]?=↑y->y.1=x.1)(st:Step (cO H env σ is) H W' H')(E:Ok K (wd G W (cO H env σ is) r) (fN H (cO H env σ is)) W' env' T H')(f:∀(j:Nat) (x:Ag),I[j]?=↑x->env'[j]?=↑↑(kQ x j)) :
  Ok K G H0 (λa=>W' a\/(W a/\¬cO H env σ is a)) (dJ env is I) σ H'/\Step W H (λa=>W' a\/(W a/\¬cO H env σ is a)) H' /\
   (∀ {d:D} {v:V},bB K H' (Ow (wd G W (cO H env σ is) r) W') d v->bB K H' (Ow G (λa=>W' a\/(W a/\¬cO H env σ is a))) d v):=by
 have lW:∀a,cO H env σ is a->W a:=λa=>ok.lentW;have O:∀a,W' a->cO H env σ is a\/H a=none:=st.ws;have n':∀a,W' a->W a->cO H env σ is a:=λa h w=>(O a h).elim id λz=>by obtain⟨_,m,q⟩:=ok.wl a w;rw[z] at q;cases q
 have aa:Step W H (λa=>W' a\/(W a/\¬cO H env σ is a)) H':=⟨λb o e n=>st.keep b o e λz=>n (lW b z),λa z=>by
  rcases z with z |z
  ·exact(O a z).imp (lW a) id
  ·exact .inl z.1⟩
 have back:∀ {j i:Nat} {y:Ag} {k:AK} {l:Option Nat} {ps:k7},is[j]?=↑i->I[j]?=↑y->env[i]?=↑↑(.ag k l ps) ->
   ∃u p as vs,σ[i]?=↑↑u/\T[j]?=↑↑u/\u=.ref p/\W' p/\(p::as).Nodup/\(∀n,l=↑n->jY y.1 (G.r n) p as)/\dZ K H' y.1 p vs/\aY K (wd G W (cO H env σ is) r) W' H' y.2 as vs:=λ{j i y k l ps} U C F=>by
  obtain⟨x,l',h1,h2⟩:=y7 hg U;rw[F] at h2;cases h2;obtain⟨v,N,p,as,vs,rfl,hW,n1,hr,hk,hp⟩:=E.slot j _ (f j y C);obtain⟨u,L,M⟩:=hu j i U;obtain⟨p0,P,R,g,z5⟩:=X j i _ _ _ U F;rw[L] at R;cases R;have hy:=an j x y h1 C;have Y:jY y.1 (r j) p as:=hr j rfl;have same:p=p0/\(as=P\/∃c fs,y.1=.ins true c fs):=by
   rw[<-hy] at g;generalize y.1=kk at Y g;cases kk with
   |ls=>have Y:r j=p::as:=Y;have g:r j=p0::P:=g;rw[Y] at g;cases g;exact⟨rfl,.inl rfl⟩
   |ins b c fs =>
     cases b with
     |true=>have Y:r j=[p]:=Y;have g:r j=[p0]:=g;rw[Y] at g;cases g;exact⟨rfl,.inr ⟨c,fs,rfl⟩⟩
     |false=>have Y:r j=p::as:=Y;have g:r j=p0::P:=g;rw[Y] at g;cases g;exact⟨rfl,.inl rfl⟩
  obtain⟨rfl,hs⟩:=same;refine⟨_,p,as,vs,M,N,rfl,hW,n1,λn hn=>?_,hk,hp⟩;have z6:=z5 n hn;rw[<-hy] at z6;rcases hs with rfl | ⟨c,fs,q⟩
  ·exact z6
  ·rw[q] at z6 ⊢;exact z6
 have up:∀(a:Addr) (us:kv),Ow (wd G W (cO H env σ is) r) W' a->Rd H' a (.lst us)->Ow G (λa=>W' a\/(W a/\¬cO H env σ is a)) a/\Rd H' a (.lst us):=λa us o h=>⟨⟨o.1.1,λz=>z.elim o.2 λy=>y.2 (o.1.2 y.1)⟩,h⟩;have cv:∀ {d:D} {v:V},bB K H' (Ow (wd G W (cO H env σ is) r) W') d v->bB K H' (Ow G (λa=>W' a\/(W a/\¬cO H env σ is a))) d v:=λrp=>rp.mono (λ_ _ h=>h) up;have ap:∀ {d:k4} {v:kv},aL K H' (Ow (wd G W (cO H env σ is) r) W') d v->aL K H' (Ow G (λa=>W' a\/(W a/\¬cO H env σ is a))) d v:=λrp=>rp.mono (λ_ _ h=>h) up;have t:∀ {i:Nat} {s:Sl} {v:V},i∉is->env[i]?=↑↑s->σ[i]?=↑↑v->∀a,bO H s v a->W a/\¬cO H env σ is a:=λ{i s v} hi e U a o=>by
  obtain⟨v',C,q⟩:=ok.slot i s e;rw[U] at C;cases C;refine⟨q.owns o,λz=>?_⟩;obtain⟨i',s',v',A,L,M,R⟩:=z;exact hi ((ok.uniq i i' s s' _ _ a e L U M o R) ▸ A)
 have Q:∀ {i:Nat} {s:Sl} {v:V},i∉is->env[i]?=↑↑s->σ[i]?=↑↑v->∀a (m:Mo),bO H s v a->H a=↑m.out->(W' a\/(W a/\¬cO H env σ is a))/\H' a=↑m.out:=λ{i s v} hi e U a m o q=>by
  have z:=t hi e U a o;exact⟨.inr z,st.keep a _ q z.2⟩
 have B:∀ {i:Nat} {s:Sl} {v:V} {a:Addr},i∉is->env[i]?=↑↑s->σ[i]?=↑↑v->bO H' s v a->bO H s v a:=λ{i s v a} hi e U o=>by
  obtain⟨v',C,q⟩:=ok.slot i s e;rw[U] at C;cases C;refine q.back (λl z w m M=>?_) o;refine st.keep l _ M λy=>?_;obtain⟨i',s',v',A,L,R,g⟩:=y;have ol:bO H s v l:=by
   cases s with
   |sh d=>exact o.elim |ow ds=>exact z |o2 dss=>exact .inl z |ag k r ps=>exact .inl z |al _ _=>exact o.elim |ro _ _=>exact o.elim
  exact hi ((ok.uniq i i' s s' _ _ l e L U R ol g) ▸ A)
 have S:∀ {i:Nat} {s:Sl},(dJ env is I)[i]?=↑↑s->(i∉is/\env[i]?=↑↑s)\/∃(j:Nat) (y:Ag) (k:AK) (l:Option Nat) (ps:k7),is[j]?=↑i/\I[j]?=↑y/\env[i]?=↑↑(.ag k l ps)/\s=.ag y.1 l y.2:=λ{i s} e=>by
  by_cases hi:i∈is
  ·obtain⟨j,hj,ej⟩:=p9 hi
   have U:is[j]?=↑i:=by simp[hj,ej]
   obtain⟨x,l,h1,h2⟩:=y7 hg U;have h3:I[j]?=↑(I[j]'∅):=by simp[hl,hj]
   rw[yG nd U h3 h2] at e;cases e;exact .inr ⟨j,_,_,l,_,U,h3,h2,rfl⟩
  ·rw[sH hi] at e;exact .inl ⟨hi,e⟩
 refine⟨⟨λb o e=>?_,ok.good,λa z=>?_,λi s e=>?_,λi i' s s' v v' a U C F N o1 o2=>?_,by rw[yF];exact ok.len⟩,aa,cv⟩
 ·exact st.keep b o (ok.stay b o e) λz=>by rw[(ok.wl b (lW b z)).1] at e;cases e
 ·rcases z with z |z
  ·refine⟨?_,(E.wl a z).2⟩
   rcases O a z with y |y
   ·exact(ok.wl a (lW a y)).1
   ·exact ok.stay.free y
  ·obtain⟨q,m,hm⟩:=ok.wl a z.1
   exact⟨q,m,st.keep a _ hm z.2⟩
 ·rcases S e with⟨hi,e⟩ | ⟨j,y,k,l,ps,U,C,F,rfl⟩
  ·obtain⟨v,U,q⟩:=ok.slot i s e
   exact⟨v,U,ok.slstep aa q (Q hi e U)⟩
  ·obtain⟨u,p,as,vs,J,_,rfl,hW,n1,ar,hk,hp⟩:=back U C F
   exact⟨_,J,p,as,vs,rfl,.inl hW,n1,ar,hk,hp.step (λa ws ha z=>⟨.inl (hp.own ha).1,z⟩) (λ_ _ r=>cv r) λ_ _ r=>ap r⟩
 ·rcases S U with⟨hi,f1⟩ | ⟨j,y,k,l,ps,f1,f2,f3,rfl⟩ <;> rcases S C with⟨A,Z⟩ | ⟨j',y',k',l',ps',Z,f2',f3',rfl⟩
  ·exact ok.uniq i i' s s' v v' a f1 Z F N (B hi f1 F o1) (B A Z N o2)
  ·exfalso
   obtain⟨L,M⟩:=t hi f1 F a (B hi f1 F o1);obtain⟨u,p,as,vs,J,q2,_⟩:=back Z f2' f3';rw[N] at J;cases J;obtain⟨v0,w1,w2⟩:=E.slot j' _ (f j' y' f2');rw[q2] at w1;cases w1;exact M (n' a (w2.owns o2) L)
  ·exfalso
   obtain⟨L,M⟩:=t A Z N a (B A Z N o2);obtain⟨u,p,as,vs,J,q2,_⟩:=back f1 f2 f3;rw[F] at J;cases J;obtain⟨v0,w1,w2⟩:=E.slot j _ (f j y f2);rw[q2] at w1;cases w1;exact M (n' a (w2.owns o1) L)
  ·obtain⟨u,p,as,vs,J,q2,_⟩:=back f1 f2 f3
   obtain⟨u',p',a1,vs',ab,a0,_⟩:=back Z f2' f3';rw[F] at J;cases J;rw[N] at ab;cases ab;have:=E.uniq j j' _ _ _ _ a (f j y f2) (f j' y' f2') q2 a0 o1 o2;subst this;rw[f1] at Z;cases Z;rfl
def dP(P:Program)(w:World)(K:kf)(mg:Str->h8)(base:Heap)(cn m:Str)(k:Nat)(sp:Sp):Prop :=
 ∃C fa fd ps,iA K C/\jE K C m fa/\cJ P w K mg base (dG P w) k fa fd ps sp/\Binds K fd ps []/\Cl K cn C
def oW(K:kf)(cn m:Str):Prop:=∃C,iA K C/\eZ K C m/\Cl K cn C
def lG(P:Program)(w:World)(K:kf)(mg:Str->h8)(base:Heap)(x:Str)(k:Nat)(sp:Sp):Prop :=
 ∃C fa fd ps,Mk K C fa/\cJ P w K mg base (dG P w) k fa fd ps sp/\mg x=↑(.ref C)/\Binds K fd ps []/\Cl K x C/\(x==("__debug__" : Str))=false
def iZ(X:Cx)(σ:St):XK:=λcls _ H'=>∀pins H s C ea s',cls=.ref C->Inv X pins σ H s->iM X.prog X.w X.stack H s C ea H' s'->X.xe (.ref ea) s'
variable{Q:VK}{vs:kv}{X:Cx}{k:Nat}{f:Addr}{fd:FuncData}{ps:h6}{sp:Sp}
theorem yI{pins:kl}{s:Shared}{us:h7}(F:cJ X.prog X.w X.K X.mg X.base (dG X.prog X.w) k f fd ps sp)(U:bA k X.A)(V:Binds X.K fd ps [])(I:Inv X pins σ H s)(r:aN vs us)(h:sp vs H Q (iZ X σ)):wpAny (model X.prog X.w) X.A (call (.ref f) us) (EP X pins σ Q) X.xe s:=by
 have Y:(us++[]).length=ps.length:=by rw[du,<-r.length];exact F.len _ _ _ _ h
 have S:=V s us I.kIn Y;rw[du] at S;refine m6 (ji (F.run X.A X.stack s H ⟨us,[]⟩ us vs Q (iZ X σ) U I.env0 S r h) λr s' D=>?_);cases r with
 |error e =>
   obtain⟨ea,C,H',rfl,fl,z⟩:=D;exact z pins H s C ea s' rfl I fl
 |ok fl =>
   cases fl with
   |ret u=>exact I.after D |next=>exact False.elim D |brk=>exact False.elim D |cont=>exact False.elim D
def Km(X:Cx)(sp:Sp)(t:TA):TE:=λσ H Q=>t σ H λvs H1=>sp vs H1 Q (iZ X σ)
variable{x:Str}{p pos:Pos}{e:Expr}{es:j0}{t:TA}
def oX(F:cJ X.prog X.w X.K X.mg X.base (dG X.prog X.w) k f fd ps sp)(V:bA k X.A)(Y:Gl X x)(Z:X.mg x=↑(.ref f))(a:PySem.W.keepIn X.K (.ref f)=true)(b:Binds X.K fd ps [])(c:PA X (e::es) t)(D:(x==("__debug__" : Str))=false:=by decide)(d:‹starEach (e::es) X.env=(false,eval e X.env)::starEach es X.env›)(S:‹(backTo pos (starEach es X.env)).any (·.1)=false›) :
  PE X (.Call (.Name x p) (e::es) [] pos) (Km X sp t):=by
 intro pins s σ H Q I h;refine iu (zc I Y Z ?_ D);refine jy (h₀:=X.base) I.ok.mod.kin a (bK (c pos pins s σ H _ I h) λus i g=>?_) d S;obtain⟨vs,H1,U,r,q⟩:=g;refine⟨U.kIn,?_⟩;exact yI F V b U r q
def sJ(X:Cx)(C:Addr)(m:Str)(sp:Sp)(ta:TE)(t:TA):TE:=λσ H Q=>ta σ H λx H1=>∃a dx fs,x=.ref a/\H1 a=↑(.ins C dx fs)/\fs.lookup m=none/\t σ H1 λvs H2=>sp (x::vs) H2 Q (iZ X σ)
variable{pl:Sem Bool}{C:Addr}{m:Str}{apos:Pos}{ta:TE}
def sK(b:PE X o ta)(c:iA X.K C)(V:jE X.K C m f)(F:cJ X.prog X.w X.K X.mg X.base (dG X.prog X.w) k f fd ps sp)(d:bA k X.A)(g:Binds X.K fd ps [])(i:PA X (e::es) t)(D:‹starEach (e::es) X.env=(false,eval e X.env)::starEach es X.env›)(S:‹(backTo pos (starEach es X.env)).any (·.1)=false›)(j:eval (.Call (.Attribute o m apos) (e::es) [] pos) X.env=(do
   let ov <-eval o X.env
   standAt apos.atName
   let (f,first) <-holding [ov] (getMethod ov m pl)
   callWith pos f first (backTo pos (starEach (e::es) X.env)) (backToKw pos (keywordEach [] X.env))):=by rfl) :
  PE X (.Call (.Attribute o m apos) (e::es) [] pos) (sJ X C m sp ta t):=by
 intro pins s σ H Q I h;refine PySem.W.methodCall_KW (pl:=pl) (bK (b pins s σ H _ I h) λu n U=>?_) j;obtain⟨x,H1,Y,p,a,dx,fs,ex,ea,l,q⟩:=U;subst ex;obtain rfl:u=Value.ref a:=p;refine BK Y ea c V l ?_;refine jy (first:=[.ref a]) (h₀:=X.base) I.ok.mod.kin V.kp (bK (i pos pins n σ H1 _ Y q) λus s2 U=>?_) D S;obtain⟨vs,H2,Z,r,v⟩:=U;refine⟨Z.kIn,?_⟩;exact yI (us:=.ref a::us) (vs:=.ref a::vs) F d g Z (.cons rfl r) v
def yJ(U:PE X o ta)(c:iA X.K C)(S:jE X.K C m f)(F:cJ X.prog X.w X.K X.mg X.base (dG X.prog X.w) k f fd ps sp)(V:bA k X.A)(Y:Binds X.K fd ps [])(Z:eval (.Call (.Attribute o m apos) [] [] pos) X.env=(do
   let ov <-eval o X.env
   standAt apos.atName
   let (f,first) <-holding [ov] (getMethod ov m pl)
   callWith pos f first (backTo pos (starEach [] X.env)) (backToKw pos (keywordEach [] X.env))):=by rfl) :
  PE X (.Call (.Attribute o m apos) [] [] pos) (sJ X C m sp ta tNil):=by
 intro pins s σ H Q I h;refine PySem.W.methodCall_KW (pl:=pl) (bK (U pins s σ H _ I h) λu e b=>?_) Z;obtain⟨x,H1,D,d,a,dx,fs,ex,ea,l,q⟩:=b;subst ex;obtain rfl:u=Value.ref a:=d;refine BK D ea c S l ?_;exact PySem.W.callWith_K0 (first:=[.ref a]) D.kIn S.kp (yI (us:=[.ref a]) (vs:=[.ref a]) F V Y D (.cons rfl .nil) q)
def Kn(X:Cx)(C:Addr)(sp:Sp)(t:TA):TE:=λσ H Q=>t σ H λvs H1=>∀x dx,H1 x=none->H1 dx=none->dx≠x ->
 sp (.ref x::vs) (aX (aX H1 dx (.own x)) x (.ins C dx [])) (λv H2=>v=.non/\Q (.ref x) H2) (iZ X σ)
theorem Ko(M:Mk X.K C f)(F:cJ X.prog X.w X.K X.mg X.base (dG X.prog X.w) k f fd ps sp)(d:bA (k+1) X.A)(g:Gl X x)(i:X.mg x=↑(.ref C))(j:Binds X.K fd ps [])(l:PA X (e::es) t)(U:(x==("__debug__" : Str))=false:=by decide)(m:‹starEach (e::es) X.env=(false,eval e X.env)::starEach es X.env›)(Y:‹(backTo pos (starEach es X.env)).any (·.1)=false›) :
  PE X (.Call (.Name x p) (e::es) [] pos) (Kn X C sp t):=by
 intro pins n σ H0 Q Z o;refine iu (zc Z g i ?_ U);refine jy (h₀:=X.base) Z.ok.mod.kin M.kp (bK (l pos pins n σ H0 _ Z o) λus s q=>?_) m Y;obtain⟨vs,H,I,r,h⟩:=q;refine⟨I.kIn,?_⟩;have a:=h (s.heap.objs.size+1) s.heap.objs.size (I.hok.fresh (o5 _)) (I.hok.fresh (cw _)) (bu (ft _));have S:=Inv.made (C:=C) I;have b:aN (V.ref (s.heap.objs.size+1)::vs) (Value.ref (s.heap.objs.size+1)::us):=.cons rfl r;have y:((Value.ref (s.heap.objs.size+1)::us)++[]).length=ps.length:=by rw[du,<-b.length];exact F.len _ _ _ _ a
 have c:=j ⟨_,s.gens,s.drawn,s.toks,s.os⟩ (Value.ref (s.heap.objs.size+1)::us) S.kIn y;rw[du] at c;refine m6 (Hh (f:=f) I.kIn M.makes M.init (l6.mp M.fn) (ji (F.run _ X.stack _ _ ⟨Value.ref (s.heap.objs.size+1)::us,[]⟩ (Value.ref (s.heap.objs.size+1)::us) _ _ (iZ X σ) (d.make C us [])
  (S.env0.make C us []) c b a) λr s' D=>?_))
 cases r with
 |error e =>
   obtain⟨ea,B,H',rfl,fl,z⟩:=D;exact z pins _ _ B ea s' rfl S fl
 |ok fl =>
   cases fl with
   |ret u =>
     obtain⟨v,H',E,G,J,L⟩:=S.after D;subst J;exact⟨G,⟨V.ref (s.heap.objs.size+1),H',E,rfl,L⟩⟩
   |next=>exact False.elim D |brk=>exact False.elim D |cont=>exact False.elim D
abbrev XF:=aP->Option (Str×aP)
def yK(X:Cx)(G:Gd)(H0:Hp)(W:Addr->Prop)(H:Hp)(σ:St)(c:Str)(env':aP):Prop:=∀W' H' C,Cl X.K c C->Step W H W' H'->Ok X.K G H0 W' env' σ H'->∀pins e s',XS X pins σ H' C e s'->X.xe (.ref e) s'
def jS(X:Cx)(G:Gd)(H0:Hp)(x:XF)(σ:St)(H:Hp):Prop:=DP X.K G H0 x (λW env c env'=> yK X G H0 W H σ c env') σ H
structure JX (X:Cx) (G:Gd) (H0:Hp) (e:Expr) (x:XF):Prop where
 out:PE X e (λσ H _=>jS X G H0 x σ H)
structure mL (X:Cx) (G:Gd) (H0:Hp) (es:j0) (x:XF):Prop where
 out:PA X es (λσ H _=>jS X G H0 x σ H)
structure oY (X:Cx) (G:Gd) (H0:Hp) (s:Stmt) (x:XF):Prop where
 out:PS X s (λ_ σ H=>jS X G H0 x σ H)
@[simp] def cA(x:XF)(g:FS):FS:=λe=>match x e with |some r=>↑(.xc r.1,r.2) |none=>g e
@[simp] def xm(f:FE)(x:XF):XF:=λe=>(f e).bind λr=>x r.2
variable{f:FE}{x:XF}
def Kp(h:jS X G H0 (xm f x) σ H)(S:∀v H1,jS X G H0 x σ H1->Q v H1):tD X.K G H0 f σ H Q:=by
 obtain⟨W,env,c,env',ok,q,k⟩:=h;cases e1:f env with
 |none=>simp[e1] at q |some r =>
   have q:x r.2=↑(c,env'):=by simpa[xm,e1] using q
   exact⟨W,env,r.1,r.2,ok,e1,λW1 v H1 U D _=>S v H1 ⟨W1,r.2,c,env',D,q,λW' H' C V s2 I=>k W' H' C V (U.trans s2) I⟩⟩
variable{g:FS}
def ko(U:eR X G H0 s g)(V:oY X G H0 s x):eR X G H0 s (cA x g):=⟨λpins s' σ H D I Y=>by
 obtain⟨W,env,fl,env',ok,q,k⟩:=Y;unfold cA at q;cases e1:x env with
 |none=>rw[e1] at q;exact U.out pins s' σ H D I ⟨W,env,fl,env',ok,q,k⟩ |some r =>
   rw[e1] at q;cases q;exact V.out pins s' σ H D I ⟨W,env,r.1,r.2,ok,e1,λW' H' C Z st S=>k W' σ H' C Z st S⟩⟩
def oo(h:JX X G H0 e x)(D:‹swapsWith e none pos.line X.env=pure false›):oY X G H0 (.Expr e pos) x:=⟨(Bx h.out D).imp λ_ _ _ z=>z⟩
def tx(h:JX X G H0 e x):oY X G H0 (.Return ↑e pos) x:=⟨(nG h.out).imp λ_ _ _ z=>z⟩
variable{Nn:h6}{y:Str}{p':Pos}{i:Nat}
def oZ(I:eJ Nn X)(h:JX X G H0 e x)(D:‹Nn[i]?=↑y›)(S:‹swapsWith e ↑(.Name y p') pos.line X.env=pure false›) :
  oY X G H0 (.Assign [.Name y p'] e pos) x:=⟨(qZ (I.t D).nd (I.t D).n (I.t D).l h.out S (I.t D).f).imp λ_ _ _ z=>z⟩
def sL(D:aS X G H0 e f)(S:mL X G H0 es x)(U:‹starEach (e::es) X.env=(false,eval e X.env)::starEach es X.env›):mL X G H0 (e::es) (xm f x):=⟨λpos pins s σ H Q I h=>(om D.out S.out U) pos pins s σ H Q I (Kp h λ_ _ z=>z)⟩
variable{c:Str}
def Cl.inj{D:Addr}(h:Cl K c C)(h':Cl K c D):C=D:=by
 unfold Cl at h h';rw[h] at h';cases h';rfl
def sM(K:kf)(O:Addr->Prop)(H:Hp)(ags:k9)(us:kv):Prop :=
 us.length=ags.length/\∀(j:Nat) (x:Ag) (u:V),ags[j]?=↑x->us[j]?=↑u->∃p vs,u=.ref p/\dZ K H x.1 p vs/\bH K (gd O) dA H x.2 vs
def eO(K:kf)(m:k9->k4->k6)(x:k9->k4->ka):Sp:=λvs H Q E =>
 ∃(O:Addr->Prop) (ags:k9) (us:kv) (ds:k4) (ws:kv),vs=us++ws/\sM K O H ags us/\aL K H O ds ws /\
  ((∃d,m ags ds=↑d/\∀v H',bC H H'->bB K H' (λa=>O a\/H a=none) d v->Q v H')\/∃c,x ags ds=↑c/\∀C H',Cl K c C->bC H H'->E (.ref C) none H')
def kx(n:Nat)(ags:k9)(ds:k4):aP:=ags.map (λx=>↑(Sl.ro x.1 x.2))++ki (n-ags.length) ds
def bL(n p ar:Nat)(g:FS):k9->k4->k6:=λags ds=>if ags.length=p/\ds.length=ar then(match g (kx n ags ds) with |some (.rt d,_)=>↑d |some (.nx,_)=>some .non |_=>none) else none
def xQ(n p ar:Nat)(g:FS):k9->k4->ka:=λags ds=>if ags.length=p/\ds.length=ar then(match g (kx n ags ds) with |some (.xc c,_)=>↑c |_=>none) else none
variable{O O':Addr->Prop}
def oh(h:∀a,O a->O' a):(∀(d:D) (v:V),bB K H O d v->bB K H O' d v)/\∀(d:k4) (v:kv),aL K H O d v->aL K H O' d v :=
 ⟨λd v r=>r.mono (λ_ _ h=>h) λa us o q=>⟨h a o,q⟩,λd v r=>r.mono (λ_ _ h=>h) λa us o q=>⟨h a o,q⟩⟩
variable{ws:kv}{ds:k4}{N:h6}
theorem DI(I:sM K O H ags us)(r:aL K H O ds ws)(f:us.length<=N.length) :
  Ok K (gd λa=>O a\/H a=none) H dA (kx N.length ags ds) (start N (us++ws)) H:=by
 have U:=xz (N:=N.drop us.length) r;have S:=U.len;have es:start N (us++ws)=us.map some++start (N.drop us.length) ws:=by
  unfold start;rw[cr,ek,ax,fu,Nat.sub_sub]
 have Z:kx N.length ags ds=ags.map (λx=>↑(Sl.ro x.1 x.2))++ki (N.drop us.length).length ds:=by unfold kx;rw[fu,I.1]
 rw[es,Z];refine⟨bC.refl _,U.good,U.wl,λi s e=>?_,λi j g s2 v1 v2 a D _ h _ o _=>?_,?_⟩
 ·by_cases hi:i<ags.length
  ·rw[ay (by simpa using hi),cb] at e
   cases D:ags[i]? with
   |none=>rw[D] at e;cases e
   |some x =>
     rw[D] at e;cases e;have V:us[i]?=↑(us[i]'(by rw[I.1];exact hi)):=by simp[I.1,hi]
     obtain⟨p,vs,h1,h2,b⟩:=I.2 i x _ D V;refine⟨_,by rw[ay (by rw[ai,I.1];exact hi),cb,V];rfl,p,vs,h1,λz=>z,h2,b.step (λa vs n z=>⟨n,z⟩) (λd v q=>(oh λa z=>⟨.inl z.1,λz=>z⟩).1 d v q) λd v q=>(oh λa z=>⟨.inl z.1,λz=>z⟩).2 d v q⟩
  ·rw[cy (by simpa using hi),ai] at e
   obtain⟨v,Y,c⟩:=U.slot _ s e;rw[<-I.1] at Y;exact⟨v,by rw[cy (by rw[ai,I.1];lia),ai];exact Y,c⟩
 ·by_cases hi:i<ags.length
  ·rw[ay (by simpa using hi),cb] at D
   cases q:ags[i]? with
   |none=>rw[q] at D;cases D
   |some x=>rw[q] at D;cases D;exact o.elim
  ·rw[cy (by simpa using hi)] at D
   obtain⟨d,_,rfl⟩:=rY D;exact o.elim
 ·rw[ax,ax,ai,ai,S,I.1]
variable{x qual:Str}{st:Stmt}{n ar:Nat}{P:Program}{w:World}{mg:Str->h8}{base:Heap}
theorem DJ{f:Addr}{p:Nat}(F:hB K x qual st f fd)(S:ut N ps (ip st))(m:n=N.length)(q:p+ar=ps.length)(Y:∀(cdv:Value) (A:Around) (outer:i0) (s:Shared) (H:Hp) (E:XK) (G:Gd) (H0:Hp),bA k (A.deeper (envOfC qual (ip st) s.heap.objs.size f cdv)) ->
   gA (cG (dG P w) P w K mg base N qual (ip st) f cdv A outer s H E) G H0 (ny st) g):cJ P w K mg base (dG P w) (k+1) f fd ps (eO K (bL n p ar g) (xQ n p ar g)):=by
 subst m;have t:ps.length<=N.length:=by have:=congrArg List.length S.pre;rw[d8] at this;lia
 have Z:∀ {O:Addr->Prop} {H:Hp} {ags:k9} {us:kv} {ds:k4} {ws:kv},sM K O H ags us->aL K H O ds ws->(ags.length=p/\ds.length=ar)->(us++ws).length=ps.length:=λU r h=>by rw[ax,U.1,h.1,<-r.length,h.2,q]
 refine F.okX S (λvs H Q E h=>?_) (λcdv A outer s H vs Q E u h=>?_)
 ·obtain⟨O,ags,us,ds,ws,rfl,U,r,h⟩:=h
  refine Z U r ?_;rcases h with⟨d,e,_⟩ | ⟨c,e,_⟩
  ·unfold bL at e;split at e
   ·assumption
   ·cases e
  ·unfold xQ at e;split at e
   ·assumption
   ·cases e
 ·obtain⟨O,ags,us,ds,ws,rfl,U,r,h⟩:=h
  refine⟨_,(Y cdv A outer s H E (gd λa=>O a\/H a=none) H u).out,?_⟩;rcases h with⟨d,e,k⟩ | ⟨c,e,k⟩
  ·unfold bL at e
   split at e;case isFalse=>cases e
   rename_i l;have j:=DI (N:=N) U r (by rw[U.1,l.1];lia);split at e
   ·rename_i d' env' b
    cases e;exact⟨dA,_,_,env',j,b,λW' i v H' st I y=>k v H' I.stay (y.mono (λ_ _ h=>h) λa us o h=>⟨o.1,h⟩)⟩
   ·rename_i env' b
    cases e;exact⟨dA,_,_,env',j,b,λW' i H' st I=>k .non H' I.stay .non⟩
   ·cases e
  ·unfold xQ at e
   split at e;case isFalse=>cases e
   rename_i l;have j:=DI (N:=N) U r (by rw[U.1,l.1];lia);split at e
   ·rename_i C env' b
    cases e;exact⟨dA,_,_,env',j,b,λW' i H' z B st I pins e s' xs=>xN xs (k z H' B I.stay)⟩
   ·cases e
def gB(K:kf)(m:k9->k4->la)(x:k9->k4->Option (Str×k9)):Sp:=λvs H Q E =>
 ∃(G:Gd) (W:Addr->Prop) (U:Hp) (ags:k9) (us:kv) (ds:k4) (ws:kv),vs=us++ws/\us.length=ags.length/\Ok K G U W (re ags) (us.map some) H/\aL K H (Ow G W) ds ws /\
  ((∃d I, m ags ds = ↑(d, I) /\ ∀W' env' S v H', Step W H W' H' -> Ok K G U W' env' S H' -> (∀(j : Nat) (x : Ag), I[j]? = ↑x -> env'[j]? = ↑↑(kQ x j)) -> bB K H' (Ow G W') d v -> Q v H') \/
   ∃c I,x ags ds=↑(c,I)/\∀C W' env' S H',Cl K c C->Step W H W' H'->Ok K G U W' env' S H'->(∀(j:Nat) (x:Ag),I[j]?=↑x->env'[j]?=↑↑(kQ x j))->E (.ref C) none H')
def lr(n:Nat)(ags:k9)(ds:k4):aP:=re ags++ki (n-ags.length) ds
def fQ(e:aP):Nat->ic->Option k9
 |_,[]=>↑[] |j,_::r=>match e[j]? with |some ↑(.ag k ↑j' ps)=>if j'=j then(fQ e (j+1) r).map λt=>(k,ps)::t else none |_=>none
def dB(n p ar:Nat)(g:FS):k9->k4->la:=λags ds=>if ags.length=p/\ds.length=ar then(match g (lr n ags ds) with |some (.rt d,e)=>(fQ e 0 (List.range p)).map λt=>(d,t) |some (.nx,e)=>(fQ e 0 (List.range p)).map λt=>(.non,t) |_=>none) else none
def xL(n p ar:Nat)(g:FS):k9->k4->Option (Str×k9):=λags ds=>if ags.length=p/\ds.length=ar then(match g (lr n ags ds) with |some (.xc c,e)=>(fQ e 0 (List.range p)).map λt=>(c,t) |_=>none) else none
theorem sN{e:aP}:∀ {l:ic} {i:Nat} {ags:k9},fQ e i l=↑ags->ags.length=l.length/\∀(j:Nat) (x:Ag),ags[j]?=↑x->e[i+j]?=↑↑(kQ x (i+j))
 | [],_,_,h=>by cases h;exact⟨rfl,λj x z=>by simp at z⟩
 |_::r,i,ags,h=>by
   unfold fQ at h;split at h
   ·rename_i k D ps q
    split at h
    ·rename_i I
     subst I;cases e2:fQ e (D+1) r with
     |none=>rw[e2] at h;cases h
     |some t =>
       rw[e2] at h;cases h;obtain⟨h1,h2⟩:=sN e2;refine⟨by rw[ao,ao,h1],λj x z=>?_⟩;cases j with
       |zero=>simp at z;subst z;exact q |succ j =>
         have:=h2 j x (by simpa using z);rwa [show D+1+j=D+(j+1) by lia] at this
    ·cases h
   ·cases h
theorem Kq{I:Hp}(ok:Ok K G I W (re ags) (us.map some) H)(S:us.length=ags.length)(r:aL K H (Ow G W) ds ws) :
  Ok K G I W (lr N.length ags ds) (start N (us++ws)) H:=by
 have U:(re ags).length=us.length:=by rw[DE,S]
 have es:start N (us++ws)=us.map some++start (N.drop us.length) ws:=by
  unfold start;rw[cr,ek,ax,fu,Nat.sub_sub]
 have f:lr N.length ags ds=re ags++ki (N.drop us.length).length ds:=by unfold lr;rw[fu,S]
 have g:=xz (N:=N.drop us.length) (O:=Ow G W) r;rw[es,f];have D:∀ {i:Nat} {s:Sl},(re ags++ki (N.drop us.length).length ds)[i]?=↑↑s->(i<us.length/\(re ags)[i]?=↑↑s)\/(us.length<=i/\∃d,ds[i-us.length]?=↑d/\s=.sh d):=λ{i s} e=>by
  by_cases hi:i<us.length
  ·rw[ay ∅] at e;exact .inl ⟨hi,e⟩
  ·rw[cy ∅,U] at e
   obtain⟨d,q,z⟩:=rY e;exact .inr ⟨by lia,d,q,z⟩
 refine⟨ok.stay,ok.good,ok.wl,λi s e=>?_,λi j h s2 v1 v2 a k l V Y Z b=>?_,?_⟩
 ·rcases D e with⟨hi,e⟩ | ⟨hi,d,q,rfl⟩
  ·obtain⟨v,h1,h2⟩:=ok.slot i s e
   exact⟨v,by rw[ay (by simpa using hi)];exact h1,h2⟩
  ·obtain⟨v,h1,h2⟩:=r.get q
   refine⟨v,?_,h2⟩;rw[cy (by simpa using hi),ai];unfold start;rw[ay (by simpa using(aj.mp h1).1),cb,h1];rfl
 ·rcases D k with⟨hi,m⟩ | ⟨hi,d,q,rfl⟩
  ·rcases D l with⟨c,f2⟩ | ⟨c,d,q,rfl⟩
   ·rw[ay (by simpa using hi)] at V
    rw[ay (by simpa using c)] at Y;exact ok.uniq i j h s2 v1 v2 a m f2 V Y Z b
   ·exact b.elim
  ·exact Z.elim
 ·rw[ax,ax,U,ai,g.len]
theorem yL{f:Addr}{p:Nat}(F:hB K x qual st f fd)(S:ut N ps (ip st))(b:n=N.length)(i:p+ar=ps.length)(U:∀(cdv:Value) (A:Around) (outer:i0) (s:Shared) (H:Hp) (E:XK) (G:Gd) (H0:Hp),bA k (A.deeper (envOfC qual (ip st) s.heap.objs.size f cdv)) ->
   gA (cG (dG P w) P w K mg base N qual (ip st) f cdv A outer s H E) G H0 (ny st) g):cJ P w K mg base (dG P w) (k+1) f fd ps (gB K (dB n p ar g) (xL n p ar g)):=by
 subst b;refine F.okX S (λvs H Q E h=>?_) (λcdv A outer s H vs Q E l h=>?_)
 ·obtain⟨G,W,a,ags,us,ds,ws,rfl,Y,ok,r,h⟩:=h
  have:ags.length=p/\ds.length=ar:=by
   rcases h with⟨d,t,e,_⟩ | ⟨c,t,e,_⟩
   ·unfold dB at e;split at e
    ·assumption
    ·cases e
   ·unfold xL at e;split at e
    ·assumption
    ·cases e
  rw[ax,Y,this.1,<-r.length,this.2,i]
 ·obtain⟨G,W,a,ags,us,ds,ws,rfl,Y,ok,r,h⟩:=h
  refine⟨_,(U cdv A outer s H E G a l).out,?_⟩;have Z:=Kq (N:=N) ok Y r;rcases h with⟨d,t,e,k⟩ | ⟨c,t,e,k⟩
  ·unfold dB at e
   split at e;case isFalse=>cases e
   split at e
   ·rename_i d' env' V
    cases e2:fQ env' 0 (List.range p) with
    |none=>rw[e2] at e;cases e
    |some t' =>
      rw[e2] at e;cases e;exact⟨W,_,_,env',Z,V,λW' D v H' st I m=>k W' env' D v H' st I (λj x z=>by have:=(sN e2).2 j x z;rwa [ni] at this) m⟩
   ·rename_i env' V
    cases e2:fQ env' 0 (List.range p) with
    |none=>rw[e2] at e;cases e
    |some t' =>
      rw[e2] at e;cases e;exact⟨W,_,_,env',Z,V,λW' D H' st I=>k W' env' D .non H' st I (λj x z=>by have:=(sN e2).2 j x z;rwa [ni] at this) .non⟩
   ·cases e
  ·unfold xL at e
   split at e;case isFalse=>cases e
   split at e
   ·rename_i u env' V
    cases e2:fQ env' 0 (List.range p) with
    |none=>rw[e2] at e;cases e
    |some t' =>
      rw[e2] at e;cases e;exact⟨W,_,_,env',Z,V,λW' D H' o q st I pins e s' xs=>xN xs (k o W' env' D H' q st I λj x z=>by have:=(sN e2).2 j x z;rwa [ni] at this)⟩
   ·cases e
def eD(env:aP):ic->Option k9
 | []=>↑[] |i::r=>match env[i]? with
   |some ↑(.ag k _ ps)=>(eD env r).map λt=>(k,ps)::t |some ↑(.ro k ps)=>(eD env r).map λt=>(k,ps)::t |_=>none
def dW(env:aP)(is:ic):Prop:=∀i∈is,∃s,env[i]?=↑↑s
instance (env:aP) (is:ic):Decidable (dW env is):=Classical.propDecidable _
variable{ps:k7}{as:ia}
def aY.ro(h:aY K G W H ps as us):bH K (gd (Ow G W)) dA H ps us:=by
 induction h with
 |nil=>exact .nil |d q _ ih=>exact .d ((oh λa z=>⟨z,λz=>z⟩).1 _ _ q) ih |o hW hl q _ ih=>exact .o (λz=>z) hl ((oh λa z=>⟨z,λz=>z⟩).2 _ _ q) ih
def bH.ro(h:bH K G W H ps us):bH K (gd (Ow G W)) dA H ps us :=
 h.step (λa vs _ z=>⟨λz=>z,z⟩) (λd v q=>(oh λa z=>⟨z,λz=>z⟩).1 d v q) λd v q=>(oh λa z=>⟨z,λz=>z⟩).2 d v q
def Ok.roAll(ok:Ok K G H0 W env σ H):∀ {is:ic} {ags:k9} {us:kv},eD env is=↑ags->us.length=is.length->(∀(j i:Nat),is[j]?=↑i->∃u,us[j]?=↑u/\σ[i]?=↑↑u)->sM K (Ow G W) H ags us
 | [],_,us,h,hl,_=>by cases h;exact⟨hl,λj x u e=>by simp at e⟩
 |i::r,ags,us,h,hl,hu=>by
   cases us with
   |nil=>simp at hl |cons u us =>
     obtain⟨n,a,b⟩:=hu 0 i rfl;simp at a;subst a;have U:∃k ps t,ags=(k,ps)::t/\eD env r=↑t/\∃p vs,u=.ref p/\dZ K H k p vs/\bH K (gd (Ow G W)) dA H ps vs:=by
      unfold eD at h;split at h
      ·rename_i k l ps q
       cases h2:eD env r with
       |none=>rw[h2] at h;cases h
       |some t =>
         rw[h2] at h;cases h;obtain⟨v,D,p,as,vs,rfl,_,_,_,I,S⟩:=ok.slot i _ q;rw[b] at D;cases D;exact⟨k,ps,t,rfl,rfl,p,vs,rfl,I,S.ro⟩
      ·rename_i k ps q
       cases h2:eD env r with
       |none=>rw[h2] at h;cases h
       |some t =>
         rw[h2] at h;cases h;obtain⟨v,D,p,vs,rfl,_,I,S⟩:=ok.slot i _ q;rw[b] at D;cases D;exact⟨k,ps,t,rfl,rfl,p,vs,rfl,I,S.ro⟩
      ·cases h
     obtain⟨k,ps,t,rfl,h2,p,vs,rfl,I,S⟩:=U;obtain⟨c,d⟩:=ok.roAll (us:=us) h2 (by simpa using hl) λj f e=>by
      obtain⟨u,g,m⟩:=hu (j+1) f (by simpa using e);exact⟨u,by simpa using g,m⟩
     refine⟨by rw[ao,ao,c],λj x v Y Z=>?_⟩;cases j with
     |zero=>simp at Y Z;subst Y;subst Z;exact⟨p,vs,rfl,I,S⟩ |succ j=>exact d j x v (by simpa using Y) (by simpa using Z)
variable{v:FV}
def Ok.newRep(ok:Ok K G H0 W env σ H){d:D}{v:V}(r:bB K H' (λa=>Ow G W a\/H a=none) d v):bB K H' (Ow G W) d v :=
 r.mono (λ_ _ h=>h) λa us o h=>⟨o.elim id λz=>⟨ok.good a (ok.stay.free z),λw=>by obtain⟨_,m,q⟩:=ok.wl a w;rw[z] at q;cases q⟩,h⟩
def lH(X:Cx)(G:Gd)(H0:Hp)(is:ic)(F:FA):TA:=λσ H Q=>∃W env ds env',Ok X.K G H0 W env σ H/\dW env is/\F env=↑(ds,env') /\
 ∀W' us ws H',Step W H W' H'->Ok X.K G H0 W' env' σ H'->us.length=is.length->(∀(j i:Nat),is[j]?=↑i->∃u,us[j]?=↑u/\σ[i]?=↑↑u)->aL X.K H' (Ow G W') ds ws->Q (us++ws) H'
structure lI (X:Cx) (G:Gd) (H0:Hp) (is:ic) (es:j0) (F:FA):Prop where
 out:PA X es (lH X G H0 is F)
variable{F:FA}
def ij(h:e_ X G H0 es F):lI X G H0 [] es F:=⟨h.out.imp λσ H Q ⟨W,env,ds,env',ok,_,q,k⟩=>⟨W,env,ds,env',ok,q,λW' vs H' st D r=>k W' [] vs H' st D rfl (λj i e=>by simp at e) r⟩⟩
variable{Cn:h6}
def ua(h:lI X G H0 is es F)(an:bR Nn Cn X)(D:‹Nn[i]?=↑x›)(I:‹starEach (.Name x pos::es) X.env=(false,eval (.Name x pos) X.env)::starEach es X.env›):lI X G H0 (i::is) (.Name x pos::es) F :=
 ⟨(om ((an.a D).pe) h.out I).imp λσ H Q Z=>by
  obtain⟨W,env,ds,env',ok,V,q,k⟩:=Z;obtain⟨s,I⟩:=V i ⋯;obtain⟨v,Y,_⟩:=ok.slot i s I;refine⟨v,Y,W,env,ds,env',ok,λS hi=>V S (by simp[hi]),q,λW' us ws H' st U b c r=>?_⟩;refine k W' (v::us) ws H' st U (by rw[ao,ao,b]) (λj S e=>?_) r;cases j with
  |zero=>simp at e;subst e;exact⟨v,rfl,Y⟩ |succ j=>obtain⟨u,d,f⟩:=c j S (by simpa using e);exact⟨u,by simpa using d,f⟩⟩
def iz(m:k9->k4->k6)(is:ic)(F:FA):FE:=λe=>if dW e is then(F e).bind λr=>(eD r.2 is).bind λags=>(m ags r.1).map λd=>(d,r.2) else none
def j2(x:k9->k4->ka)(is:ic)(F:FA):XF:=λe=>if dW e is then(F e).bind λr=>(eD r.2 is).bind λags=>(x ags r.1).map λc=>(c,r.2) else none
variable{m:k9->k4->k6}{xx:k9->k4->ka}
def yM:∀σ H Q,tD X.K G H0 (iz m is F) σ H Q->lH X G H0 is F σ H λvs H1=>eO X.K m xx vs H1 Q (iZ X σ):=λσ H Q S=>by
 obtain⟨W,env,d,env',ok,q,k⟩:=S;unfold iz at q;split at q;case isFalse=>cases q
 rename_i I;cases e1:F env with
 |none=>rw[e1] at q;cases q
 |some r =>
   rw[e1,ac] at q;cases e2:eD r.2 is with
   |none=>rw[e2] at q;cases q
   |some ags =>
     rw[e2,ac] at q;cases e3:m ags r.1 with
     |none=>rw[e3] at q;cases q
     |some d' =>
       rw[e3] at q;cases q;exact⟨W,env,r.1,r.2,ok,I,e1,λW1 us ws H1 U D V Y Z=>⟨Ow G W1,ags,us,r.1,ws,rfl,D.roAll e2 V Y,Z,.inl ⟨_,e3,λv H' sm a=>k W1 v H' (U.trans (Step.same sm)) (D.same sm) (D.newRep a)⟩⟩⟩
def DK:∀σ H (Q:VK),jS X G H0 (j2 xx is F) σ H->lH X G H0 is F σ H λvs H1=>eO X.K m xx vs H1 Q (iZ X σ):=λσ H Q U=>by
 obtain⟨W,env,c,env',ok,q,k⟩:=U;unfold j2 at q;split at q;case isFalse=>cases q
 rename_i S;cases e1:F env with
 |none=>rw[e1] at q;cases q
 |some r =>
   rw[e1,ac] at q;cases e2:eD r.2 is with
   |none=>rw[e2] at q;cases q
   |some ags =>
     rw[e2,ac] at q;cases e3:xx ags r.1 with
     |none=>rw[e3] at q;cases q
     |some c' =>
       rw[e3] at q;cases q;refine⟨W,env,r.1,r.2,ok,S,e1,λW1 us ws H1 V D Y Z a=>⟨Ow G W1,ags,us,r.1,ws,rfl,D.roAll e2 Y Z,a,.inr ⟨_,e3,λC H' b sm pins H2 s2 e ea s' d I fl=>?_⟩⟩⟩;cases d;exact k W1 H' C b (V.trans (Step.same sm)) (D.same sm) pins ea s' (.inl ⟨s2,H2,I,fl⟩)
variable{jr:Nat}
def ky(c:bN X.prog X.w X.K X.mg X.base (dG X.prog X.w) x k (eO X.K m xx))(U:bA jr X.A)(V:lI X G H0 is (e::es) F)(D:k<=jr:=by decide)(Y:Gl X x:=by walk_at "g")(Z:‹starEach (e::es) X.env=(false,eval e X.env)::starEach es X.env›)(I:‹(backTo pos (starEach es X.env)).any (·.1)=false›) :
  aS X G H0 (.Call (.Name x p') (e::es) [] pos) (iz m is F):=let ⟨_,_,_,a,b,d,f,S⟩:=c;⟨(oX a (U.mono D) Y b d f V.out S Z I).imp yM⟩
def ly(c:bN X.prog X.w X.K X.mg X.base (dG X.prog X.w) x k (eO X.K m xx))(U:bA jr X.A)(V:lI X G H0 is (e::es) F)(D:k<=jr:=by decide)(Y:Gl X x:=by walk_at "g")(Z:‹starEach (e::es) X.env=(false,eval e X.env)::starEach es X.env›)(I:‹(backTo pos (starEach es X.env)).any (·.1)=false›) :
  JX X G H0 (.Call (.Name x p') (e::es) [] pos) (j2 xx is F):=let ⟨_,_,_,a,b,d,f,S⟩:=c;⟨(oX a (U.mono D) Y b d f V.out S Z I).imp DK⟩
instance (a b:List AK):Decidable (a=b):=Classical.propDecidable _
def me(m:k9->k4->la)(is:ic)(F:FA):FE:=λe=>if dW e is then(F e).bind λr=>(dV r.2 is).bind λags=>(m ags r.1).bind λq=>if q.2.map (·.1)=ags.map (·.1) then ↑(q.1,dJ r.2 is q.2) else none else none
def pd(x:k9->k4->Option (Str×k9))(is:ic)(F:FA):XF:=λe=>if dW e is then(F e).bind λr=>(dV r.2 is).bind λags=>(x ags r.1).bind λq=>if q.2.map (·.1)=ags.map (·.1) then ↑(q.1,dJ r.2 is q.2) else none else none
variable{a b:Expr}
def DL{a b:k9}(h:b.map (·.1)=a.map (·.1)):b.length=a.length/\∀(j:Nat) (x y:Ag),a[j]?=↑x->b[j]?=↑y->y.1=x.1:=by
 refine⟨by simpa using congrArg List.length h,λj x y D I=>?_⟩;have:=congrArg (λl:List AK=>l[j]?) h;simp[cb,D,I,Option.some.injEq] at this;exact this
variable{m:k9->k4->la}{xx:k9->k4->Option (Str×k9)}
theorem yN(Z:is.Nodup):∀σ H Q,tD X.K G H0 (me m is F) σ H Q->lH X G H0 is F σ H λvs H1=>gB X.K m xx vs H1 Q (iZ X σ):=λσ H Q f=>by
 obtain⟨W,env,d,env',ok,q,k⟩:=f;unfold me at q;split at q;case isFalse=>cases q
 rename_i S;cases e1:F env with
 |none=>rw[e1] at q;cases q
 |some r =>
   rw[e1,ac] at q;cases e2:dV r.2 is with
   |none=>rw[e2] at q;cases q
   |some ags =>
     rw[e2,ac] at q;cases e3:m ags r.1 with
     |none=>rw[e3] at q;cases q
     |some z =>
       rw[e3,ac] at q;split at q;case isFalse=>cases q
       rename_i U;cases q;obtain⟨g,i⟩:=DL U;refine⟨W,env,r.1,r.2,ok,S,e1,λW1 us ws H1 l D N n p=>?_⟩;obtain⟨O,I,s,b,t,V⟩:=D.lend Z e2;have w:I=us:=by
        apply fo;intro j;by_cases c:j<is.length
        ·obtain⟨u,x,y⟩:=n j is[j] (by simp[c])
         obtain⟨P,A,e⟩:=b j is[j] (by simp[c]);rw[y] at e;cases e;rw[x,A]
        ·rw[dq ∅,dq ∅]
       subst w;refine⟨_,_,_,ags,I,r.1,ws,rfl,by rw[s,mK e2],V,?_,.inl ⟨_,_,e3,λW' env' B v H' st Y C E=>?_⟩⟩
       ·exact p.mono (λ_ _ h=>h) λa us o h=>⟨⟨⟨o.1,λz=>absurd z o.2⟩,λz=>o.2 (D.lentW z)⟩,h⟩
       ·obtain⟨J,L,M⟩:=D.unlend Z e2 b t (by rw[g,mK e2]) i st Y C
        exact k _ v H' (l.trans L) J (M E)
theorem yO(b:is.Nodup):∀σ H (Q:VK),jS X G H0 (pd xx is F) σ H->lH X G H0 is F σ H λvs H1=>gB X.K m xx vs H1 Q (iZ X σ):=λσ H Q g=>by
 obtain⟨W,env,d,env',ok,q,k⟩:=g;unfold pd at q;split at q;case isFalse=>cases q
 rename_i U;cases e1:F env with
 |none=>rw[e1] at q;cases q
 |some r =>
   rw[e1,ac] at q;cases e2:dV r.2 is with
   |none=>rw[e2] at q;cases q
   |some ags =>
     rw[e2,ac] at q;cases e3:xx ags r.1 with
     |none=>rw[e3] at q;cases q
     |some z =>
       rw[e3,ac] at q;split at q;case isFalse=>cases q
       rename_i V;cases q;obtain⟨i,l⟩:=DL V;refine⟨W,env,r.1,r.2,ok,U,e1,λW1 us ws H1 n D O p s=>?_⟩;obtain⟨P,S,t,c,v,Y⟩:=D.lend b e2;have w:S=us:=by
        apply fo;intro j;by_cases e:j<is.length
        ·obtain⟨u,x,y⟩:=p j is[j] (by simp[e])
         obtain⟨R,A,f⟩:=c j is[j] (by simp[e]);rw[y] at f;cases f;rw[x,A]
        ·rw[dq ∅,dq ∅]
       subst w;refine⟨_,_,_,ags,S,r.1,ws,rfl,by rw[t,mK e2],Y,?_,.inr ⟨_,_,e3,λC W' env' B H' E st Z J pins H2 s2 T ea s' L I fl=>?_⟩⟩
       ·exact s.mono (λ_ _ h=>h) λa us o h=>⟨⟨⟨o.1,λz=>absurd z o.2⟩,λz=>o.2 (D.lentW z)⟩,h⟩
       ·cases L
        obtain⟨M,N,u3⟩:=D.unlend b e2 c v (by rw[i,mK e2]) l st Z J;exact k _ H' C E (n.trans N) M pins ea s' (.inl ⟨s2,H2,I,fl⟩)
def o_(c:bN X.prog X.w X.K X.mg X.base (dG X.prog X.w) x k (gB X.K m xx))(U:bA jr X.A)(V:lI X G H0 is (e::es) F)(D:k<=jr:=by decide)(Y:Gl X x:=by walk_at "g")(Z:is.Nodup:=by decide)(a:‹starEach (e::es) X.env=(false,eval e X.env)::starEach es X.env›)(I:‹(backTo pos (starEach es X.env)).any (·.1)=false›) :
  aS X G H0 (.Call (.Name x p') (e::es) [] pos) (me m is F):=let ⟨_,_,_,b,d,f,g,S⟩:=c;⟨(oX b (U.mono D) Y d f g V.out S a I).imp (yN Z)⟩
def Kr(c:bN X.prog X.w X.K X.mg X.base (dG X.prog X.w) x k (gB X.K m xx))(U:bA jr X.A)(V:lI X G H0 is (e::es) F)(D:k<=jr:=by decide)(Y:Gl X x:=by walk_at "g")(Z:is.Nodup:=by decide)(a:‹starEach (e::es) X.env=(false,eval e X.env)::starEach es X.env›)(I:‹(backTo pos (starEach es X.env)).any (·.1)=false›) :
  JX X G H0 (.Call (.Name x p') (e::es) [] pos) (pd xx is F):=let ⟨_,_,_,b,d,f,g,S⟩:=c;⟨(oX b (U.mono D) Y d f g V.out S a I).imp (yO Z)⟩
def jT(κ:AK)(e:aP)(i:Nat):Prop:=(∃l ps,e[i]?=↑↑(.ag κ l ps))\/∃ps,e[i]?=↑↑(.ro κ ps)
instance (κ:AK) (e:aP) (i:Nat):Decidable (jT κ e i):=Classical.propDecidable _
def fK(κ:AK)(i:Nat)(f:FE):FE:=λe=>if jT κ e i then f e else none
def xK(κ:AK)(i:Nat)(f:XF):XF:=λe=>if jT κ e i then f e else none
def jT.at{K:kf}{W:Addr->Prop}{H:Hp}{env:aP}{σ:St}{c:Str}{fs:h6}{C:Addr}(ok:Ok K G H0 W env σ H)(h:jT (.ins false c fs) env i)(V:Cl K c C):∃p dx us,σ[i]?=↑↑(.ref p)/\H p=↑(.ins C dx (fs.zip us))/\fs.length=us.length:=by
 rcases h with⟨l,ps,e⟩ | ⟨ps,e⟩
 ·obtain⟨v,I,p,as,us,rfl,_,_,_,⟨Y,dx,S,D,U⟩,_⟩:=ok.slot i _ e
  rw[Cl.inj S V] at D;exact⟨p,dx,us,I,D,U⟩
 ·obtain⟨v,I,p,us,rfl,_,⟨Y,dx,S,D,U⟩,_⟩:=ok.slot i _ e
  rw[Cl.inj S V] at D;exact⟨p,dx,us,I,D,U⟩
variable{m:Str}{fs:h6}
def DM(h:m∉fs):(fs.zip us).lookup m=none:=by
 induction fs generalizing us with
 |nil=>rfl |cons f r ih =>
   cases us with
   |nil=>rfl |cons u us =>
     rw[l8,di];have:(m==f)=false:=by simp;exact λz=>h (by simp[z])
     rw[this];exact ih λz=>h (by simp[z])
def sO(U:Cl X.K c C)(V:m∉fs)(h:∀σ H Q,tD X.K G H0 f σ H Q->lH X G H0 [i] F σ H λvs H1=>sp vs H1 Q (iZ X σ)):∀σ H Q,tD X.K G H0 (fK (.ins false c fs) i f) σ H Q->sJ X C m sp (jB i) (kO X.K G H0 F) σ H Q:=λσ H Q Y=>by
 obtain⟨W,env,d,env',ok,q,k⟩:=Y;unfold fK at q;split at q;case isFalse=>cases q
 rename_i Z;obtain⟨p,dx,us,S,a,_⟩:=Z.at ok U;obtain⟨b,env0,ds,env1,D,_,g,l⟩:=h σ H Q ⟨W,env,d,env',ok,q,k⟩;refine⟨_,S,p,dx,_,rfl,a,DM V,b,env0,ds,env1,D,g,λW' ws H' st I r=>?_⟩;exact l W' [.ref p] ws H' st I rfl (λj n e=>by cases j with |zero=>simp at e;subst e;exact⟨_,rfl,S⟩ |succ j=>simp at e) r
def yP(U:Cl X.K c C)(V:m∉fs){f:XF}(h:∀σ H (Q:VK),jS X G H0 f σ H->lH X G H0 [i] F σ H λvs H1=>sp vs H1 Q (iZ X σ)):∀σ H (Q:VK),jS X G H0 (xK (.ins false c fs) i f) σ H->sJ X C m sp (jB i) (kO X.K G H0 F) σ H Q:=λσ H Q Y=>by
 obtain⟨W,env,d,env',ok,q,k⟩:=Y;unfold xK at q;split at q;case isFalse=>cases q
 rename_i Z;obtain⟨p,dx,us,S,a,_⟩:=Z.at ok U;obtain⟨b,env0,ds,env1,D,_,g,l⟩:=h σ H Q ⟨W,env,d,env',ok,q,k⟩;refine⟨_,S,p,dx,_,rfl,a,DM V,b,env0,ds,env1,D,g,λW' ws H' st I r=>?_⟩;exact l W' [.ref p] ws H' st I rfl (λj n e=>by cases j with |zero=>simp at e;subst e;exact⟨_,rfl,S⟩ |succ j=>simp at e) r
variable{xx:k9->k4->ka}{cn:Str}{mm:k9->k4->k6}
def Ks(c:dP X.prog X.w X.K X.mg X.base cn m k (eO X.K mm xx))(Y:bA jr X.A)(Z:e_ X G H0 (e::es) F)(an:bR Nn Cn X)(D:k<=jr:=by decide)(I:‹Nn[i]?=↑x›)(b:m∉fs:=by decide +kernel)(S:‹starEach (e::es) X.env=(false,eval e X.env)::starEach es X.env›)(U:‹(backTo pos (starEach es X.env)).any (·.1)=false›)(d:eval (.Call (.Attribute (.Name x p') m apos) (e::es) [] pos) X.env=(do
   let ov <-eval (.Name x p') X.env
   standAt apos.atName
   let (f,first) <-holding [ov] (getMethod ov m pl)
   callWith pos f first (backTo pos (starEach (e::es) X.env)) (backToKw pos (keywordEach [] X.env))):=by rfl) :
  aS X G H0 (.Call (.Attribute (.Name x p') m apos) (e::es) [] pos) (fK (.ins false cn fs) i (iz mm [i] F)):=let ⟨_,_,_,_,c,V,g,h,j⟩:=c;⟨(sK ((an.a I).pe) c V g (Y.mono D) h Z.out S U d).imp (sO j b yM)⟩
def Kt(c:dP X.prog X.w X.K X.mg X.base cn m k (eO X.K mm xx))(Y:bA jr X.A)(Z:e_ X G H0 (e::es) F)(an:bR Nn Cn X)(D:k<=jr:=by decide)(I:‹Nn[i]?=↑x›)(b:m∉fs:=by decide +kernel)(S:‹starEach (e::es) X.env=(false,eval e X.env)::starEach es X.env›)(U:‹(backTo pos (starEach es X.env)).any (·.1)=false›)(d:eval (.Call (.Attribute (.Name x p') m apos) (e::es) [] pos) X.env=(do
   let ov <-eval (.Name x p') X.env
   standAt apos.atName
   let (f,first) <-holding [ov] (getMethod ov m pl)
   callWith pos f first (backTo pos (starEach (e::es) X.env)) (backToKw pos (keywordEach [] X.env))):=by rfl) :
  JX X G H0 (.Call (.Attribute (.Name x p') m apos) (e::es) [] pos) (xK (.ins false cn fs) i (j2 xx [i] F)):=let ⟨_,_,_,_,c,V,g,h,j⟩:=c;⟨(sK ((an.a I).pe) c V g (Y.mono D) h Z.out S U d).imp (yP j b DK)⟩
def r8(c:dP X.prog X.w X.K X.mg X.base cn m k (eO X.K mm xx))(V:bA jr X.A)(an:bR Nn Cn X)(D:k<=jr:=by decide)(I:‹Nn[i]?=↑x›)(Y:m∉fs:=by decide +kernel)(Z:eval (.Call (.Attribute (.Name x p') m apos) [] [] pos) X.env=(do
   let ov <-eval (.Name x p') X.env
   standAt apos.atName
   let (f,first) <-holding [ov] (getMethod ov m pl)
   callWith pos f first (backTo pos (starEach [] X.env)) (backToKw pos (keywordEach [] X.env))):=by rfl) :
  aS X G H0 (.Call (.Attribute (.Name x p') m apos) [] [] pos) (fK (.ins false cn fs) i (iz mm [i] aC)):=let ⟨_,_,_,_,c,S,b,d,e⟩:=c;⟨(yJ ((an.a I).pe) c S b (V.mono D) d Z).imp λσ H Q h=>by
   obtain⟨g,h1,h2⟩:=sO (F:=aC) e Y (yM (xx:=xx)) σ H Q h;obtain⟨a,dx,U,j,l,n,W,env,ds,env',ok,q,kk⟩:=h2;cases q;exact⟨g,h1,a,dx,U,j,l,n,kk W [] H Step.refl ok .nil⟩⟩
variable{xx:k9->k4->Option (Str×k9)}{mm:k9->k4->la}
def zg(c:dP X.prog X.w X.K X.mg X.base cn m k (gB X.K mm xx))(Y:bA jr X.A)(Z:e_ X G H0 (e::es) F)(an:bR Nn Cn X)(D:k<=jr:=by decide)(I:‹Nn[i]?=↑x›)(b:m∉fs:=by decide +kernel)(S:‹starEach (e::es) X.env=(false,eval e X.env)::starEach es X.env›)(U:‹(backTo pos (starEach es X.env)).any (·.1)=false›)(d:eval (.Call (.Attribute (.Name x p') m apos) (e::es) [] pos) X.env=(do
   let ov <-eval (.Name x p') X.env
   standAt apos.atName
   let (f,first) <-holding [ov] (getMethod ov m pl)
   callWith pos f first (backTo pos (starEach (e::es) X.env)) (backToKw pos (keywordEach [] X.env))):=by rfl) :
  aS X G H0 (.Call (.Attribute (.Name x p') m apos) (e::es) [] pos) (fK (.ins false cn fs) i (me mm [i] F)):=let ⟨_,_,_,_,c,V,g,h,j⟩:=c;⟨(sK ((an.a I).pe) c V g (Y.mono D) h Z.out S U d).imp (sO j b (yN ⋯))⟩
def yQ(c:dP X.prog X.w X.K X.mg X.base cn m k (gB X.K mm xx))(Y:bA jr X.A)(Z:e_ X G H0 (e::es) F)(an:bR Nn Cn X)(D:k<=jr:=by decide)(I:‹Nn[i]?=↑x›)(b:m∉fs:=by decide +kernel)(S:‹starEach (e::es) X.env=(false,eval e X.env)::starEach es X.env›)(U:‹(backTo pos (starEach es X.env)).any (·.1)=false›)(d:eval (.Call (.Attribute (.Name x p') m apos) (e::es) [] pos) X.env=(do
   let ov <-eval (.Name x p') X.env
   standAt apos.atName
   let (f,first) <-holding [ov] (getMethod ov m pl)
   callWith pos f first (backTo pos (starEach (e::es) X.env)) (backToKw pos (keywordEach [] X.env))):=by rfl) :
  JX X G H0 (.Call (.Attribute (.Name x p') m apos) (e::es) [] pos) (xK (.ins false cn fs) i (pd xx [i] F)):=let ⟨_,_,_,_,c,V,g,h,j⟩:=c;⟨(sK ((an.a I).pe) c V g (Y.mono D) h Z.out S U d).imp (yP j b (yO ⋯))⟩
def DN(c:dP X.prog X.w X.K X.mg X.base cn m k (gB X.K mm xx))(V:bA jr X.A)(an:bR Nn Cn X)(D:k<=jr:=by decide)(I:‹Nn[i]?=↑x›)(Y:m∉fs:=by decide +kernel)(Z:eval (.Call (.Attribute (.Name x p') m apos) [] [] pos) X.env=(do
   let ov <-eval (.Name x p') X.env
   standAt apos.atName
   let (f,first) <-holding [ov] (getMethod ov m pl)
   callWith pos f first (backTo pos (starEach [] X.env)) (backToKw pos (keywordEach [] X.env))):=by rfl) :
  aS X G H0 (.Call (.Attribute (.Name x p') m apos) [] [] pos) (fK (.ins false cn fs) i (me mm [i] aC)):=let ⟨_,_,_,_,c,S,b,d,e⟩:=c;⟨(yJ ((an.a I).pe) c S b (V.mono D) d Z).imp λσ H Q h=>by
   obtain⟨g,h1,h2⟩:=sO (F:=aC) e Y (yN (xx:=xx) ⋯) σ H Q h;obtain⟨a,dx,U,j,l,n,W,env,ds,env',ok,q,kk⟩:=h2;cases q;exact⟨g,h1,a,dx,U,j,l,n,kk W [] H Step.refl ok .nil⟩⟩
def DO(c:dP X.prog X.w X.K X.mg X.base cn m k (gB X.K mm xx))(V:bA jr X.A)(an:bR Nn Cn X)(D:k<=jr:=by decide)(I:‹Nn[i]?=↑x›)(Y:m∉fs:=by decide +kernel)(Z:eval (.Call (.Attribute (.Name x p') m apos) [] [] pos) X.env=(do
   let ov <-eval (.Name x p') X.env
   standAt apos.atName
   let (f,first) <-holding [ov] (getMethod ov m pl)
   callWith pos f first (backTo pos (starEach [] X.env)) (backToKw pos (keywordEach [] X.env))):=by rfl) :
  JX X G H0 (.Call (.Attribute (.Name x p') m apos) [] [] pos) (xK (.ins false cn fs) i (pd xx [i] aC)):=let ⟨_,_,_,_,c,S,b,d,e⟩:=c;⟨(yJ ((an.a I).pe) c S b (V.mono D) d Z).imp λσ H Q h=>by
   obtain⟨g,h1,h2⟩:=yP (F:=aC) e Y (yO (m:=mm) ⋯) σ H Q h;obtain⟨a,dx,U,j,l,n,W,env,ds,env',ok,q,kk⟩:=h2;cases q;exact⟨g,h1,a,dx,U,j,l,n,kk W [] H Step.refl ok .nil⟩⟩
variable{z:Int}
def vo(D:∃t,X.mg x=↑(.int z t))(I:Gl X x:=by walk_at "g")(hd:(x==("__debug__" : Str))=false:=by decide +kernel):aS X G H0 (.Name x pos) (fC ↥z):=by
 obtain⟨t,D⟩:=D;exact kA (Bv I D (v:=.int z) ⟨t,rfl⟩ hd) λ_ _=>.int _
abbrev FV:=aP->Option aP
def tV(X:Cx)(G:Gd)(H0:Hp)(v:FV):TE:=λσ H Q=>∃W env env',Ok X.K G H0 W env σ H/\v env=↑env'/\∀W' z H',Step W H W' H'->Ok X.K G H0 W' env' σ H'->Q (.str z) H'
structure JV (X:Cx) (G:Gd) (H0:Hp) (e:Expr) (v:FV):Prop where
 out:PE X e (tV X G H0 v)
def pa{z:Str}:JV X G H0 (.Constant (.str z) j pos) some:=⟨Bu.imp λσ H Q ⟨W,env,env',ok,q,k⟩=>by cases q;exact k W z H Step.refl ok⟩
structure yR (X:Cx) (G:Gd) (H0:Hp) (e:Expr) (v:FV):Prop where
 out:∀(pins:kl) (s:Shared) (σ:St) (H:Hp) (Q:Nat->Hp->Prop),Inv X pins σ H s->(∃W env env',Ok X.K G H0 W env σ H/\v env=↑env'/\∀n W' H',n<=1000->Step W H W' H'->Ok X.K G H0 W' env' σ H'->Q n H') ->
  wpAny (model X.prog X.w) X.A (eval e X.env) (λu s'=>∃z t H',u=.str z t/\Inv X pins σ H' s'/\Q z.length H') X.xe s
def vn{z:Str}(D:z.length<=1000:=by decide):yR X G H0 (.Constant (.str z) j pos) some:=⟨λpins s σ H Q I S=>by
 obtain⟨W,env,env',ok,q,k⟩:=S;cases q;exact Calls.Constant_str ⟨z,_,H,rfl,I.tok _,k _ W H D Step.refl ok⟩⟩
def vInt(f:FE):FV:=λe=>(f e).bind λr=>match r.1 with | .int z=>if z.natAbs<1000000 then ↑r.2 else none |_=>none
theorem yz(h:aS X G H0 a f):yR X G H0 (.FormattedValue a (-1) none pos) (vInt f):=⟨λpins s σ H Q I S=>by
 obtain⟨W,env,env',ok,q,k⟩:=S;unfold vInt at q;cases e1:f env with
 |none=>rw[e1] at q;cases q
 |some r =>
   rw[e1,ac] at q;split at q;case h_2=>cases q
   rename_i z c;split at q;case isFalse=>cases q
   rename_i V;cases q;refine FormattedValue_plain (bK (h.out pins s σ H (λv H1=>v=.int z/\∀n,n<=1000->Q n H1) I ⟨W,env,r.1,r.2,ok,e1,λW1 v H1 Y U Z=>⟨by rw[c] at Z;exact Z.int_,λn d=>k n W1 H1 d Y U⟩⟩) λu Y S=>?_);obtain⟨v,H1,e,g,i,j⟩:=S;subst i;obtain⟨t,rfl⟩:=g;have D:z.natAbs.log2<1920:=by
    by_cases b:z.natAbs=0
    ·rw[b];decide
    ·exact(Nat.log2_lt b).mpr (bn V (d7 (by decide:(1000000:Nat)<=2 ^ 20) (Nat.pow_le_pow_right (by decide) (by decide))))
   refine formatField_int_small D ⟨_,_,H1,rfl,(e.tok _).tok _,j _ ?_⟩;have:(toString z).length<=6+1:=int_text_length_le10 (by decide) V;rw[PySem.ofString_length]
   lia⟩
structure sP (X:Cx) (G:Gd) (H0:Hp) (es:j0) (v:FV):Prop where
 out:∀(acc:Str) (pins:kl) (s:Shared) (σ:St) (H:Hp) (Q:VK),acc.length+1000*es.length<=100000->Inv X pins σ H s->tV X G H0 v σ H Q ->
  wpAny (model X.prog X.w) X.A (joinParts acc (evalEach es X.env)) (EP X pins σ Q) X.xe s
theorem yy  : sP X G H0 [] some:=⟨λD pins s σ H Q U I S=>by
 obtain⟨W,env,env',ok,q,k⟩:=S;cases q;exact joinParts_nil ⟨.str D,H,I.tok _,⟨_,rfl⟩,k W D H Step.refl ok⟩ (by rw[gz];lia)⟩
theorem qe{w:FV}(h:yR X G H0 e v)(t:sP X G H0 es w)(d:‹evalEach (e::es) X.env=eval e X.env::evalEach es X.env›):sP X G H0 (e::es) (λz=>(v z).bind w):=⟨λZ pins s σ H Q a I D=>by
 obtain⟨W,env,env',ok,q,k⟩:=D;cases e1:v env with
 |none=>simp only[e1] at q;cases q
 |some env1 =>
   have q:w env1=↑env':=by simpa only[e1,ac] using q
   rw[ao] at a;refine joinParts_cons (bK (h.out pins s σ H (λn H1=>n<=1000/\tV X G H0 w σ H1 Q) I ⟨W,env,env1,ok,e1,λn W1 H1 Y S U=>⟨Y,W1,env1,env',U,q,λW' z H' s2 V=>k W' z H' (S.trans s2) V⟩⟩) λu S D=>?_);obtain⟨z,tk,H1,b,c,Y,tv⟩:=D;subst b;exact⟨by rw[strLen_append,gz];lia,t.out _ pins S σ H1 Q (by rw[strLen_append];lia) c tv⟩⟩
theorem yx{e':Expr}(h:sP X G H0 (e::e'::es) v)(D:1000*(e::e'::es).length<=100000:=by decide):JV X G H0 (.JoinedStr (e::e'::es) pos) v :=
 ⟨λpins s σ H Q I t=>JoinedStr_many (h.out Str.empty pins s σ H Q (by show 0+_<=_;lia) I t)⟩
abbrev yS:h7:=[.type "ValueError",.type "Exception",.type "BaseException",.type "object"]
def XC(K:kf)(C:Addr):Prop:=PySem.W.excIn K C yS "ValueError.__new__" = true
def iP(K:kf)(mg:Str->h8)(c:Str):Prop:=∃C,Cl K c C/\XC K C/\mg c=↑(.ref C)/\(c==("__debug__" : Str))=false
def XC.obj{h:Heap}(I:XC K C)(D:K.In h):∃bm N nm q bs hdct sn sub ab col dd k0 k1 k2 k3 k5 mN,h.get? C=↑(excClassObj nm q C N bs bm hdct sn sub ab col dd k0 k1 k2 k3 k5 "ValueError.__new__")/\h.Ns N mN/\mN "__init__" = none/\OwnTail h yS bm:=by
 unfold XC PySem.W.excIn at I;split at I;case h_2=>cases I
 rename_i dd cd sl U;split at I;case h_2=>cases I
 rename_i j bm k0 k1 k2 k3 n k5 V Y;simp only[d9,l6,mn] at I;obtain⟨⟨⟨⟨⟨Z,a⟩,b⟩,c⟩,S⟩,d⟩:=I;subst Z;subst a;have e:=D _ _ U;obtain⟨nm,bs,f,ns,g,hd,sn,sub,ab,col,i⟩:=cd;obtain⟨l⟩:=sl;subst V;subst b;subst Y;exact⟨bm,ns,nm,g,bs,hd,sn,sub,ab,col,dd,k0,k1,k2,k3,k5,_,e,.of_isNs (isNs_of_in D S),nsMap_none_of_in D S d,tail_of_in D c⟩
def mj(c:Str)(v:FV):FS:=λe=>(v e).map λe'=>(.xc c,e')
def ub{j cpos:Pos}(l:iP X.K X.mg c)(n:JV X G H0 a v)(o:‹X.calm=true›)(p:Gl X c:=by walk_at "g")(V:‹starEach [a] X.env=(false,eval a X.env)::starEach [] X.env›)(Y:‹(backTo cpos (starEach [a] X.env)).any (·.1)=false›) :
  eR X G H0 (.Raise ↑(.Call (.Name c j) [a] [] cpos) none pos) (mj c v):=let ⟨C,r,t,u,Z⟩:=l;⟨λpins s σ H D I b=>by
 obtain⟨W,env,fl,env',ok,q,k⟩:=b;unfold mj at q;cases e1:v env with
 |none=>rw[e1] at q;cases q
 |some env1 =>
   rw[e1] at q;cases q;obtain⟨tl,N,nm,q,bs,hdct,sn,sub,ab,col,dd,k0,k1,k2,k3,k5,mN,w,x,y,h⟩:=t.obj I.ok.mod.kin;refine wpAny_Raise_call_subT (C:=C) (nm:=nm) (q:=q) (N:=N) (bs:=bs) (bm:=tl) (hdct:=hdct) (sn:=sn) (sub:=sub) (ab:=ab) (col:=col) (dd:=dd) (k0:=k0) (k1:=k1) (k2:=k2) (k3:=k3) (k5:=k5) yf (mN:=mN)
    (h.hasType yf.hasBase) (I.ok.hd o) Y y (zc I p u ⟨rfl,?_⟩ Z)
   rw[V];refine Calls.evalArgs_plain ?_;have i:=(om n.out tw V) cpos pins s σ H (λvs H1=>vs.length=1/\∃W1,Step W H W1 H1/\Ok X.K G H0 W1 env' σ H1) I ⟨W,env,env',ok,e1,λW1 z H1 d S=>⟨rfl,W1,d,S⟩⟩;rw[V] at i;refine bK i λus d b=>?_;obtain⟨vs,H1,U,A,B,W1,f,S⟩:=b;have g:us.length<=sizeLine:=by rw[<-A.length,B];decide
   exact⟨rfl,g,U.bk _ _ w,x.keeps U.bk,h.keeps U.bk,λh' e m=>k W1 σ H1 C r f S pins e _ (.inr ⟨d,us,U,m,rfl⟩)⟩⟩
def cY(e:aP)(i:Nat):Option Ag:=match e[i]? with |some ↑(.ag k _ ps)=>↑(k,ps) |some ↑(.ro k ps)=>↑(k,ps) |_=>none
def t5:k7->Nat->Nat
 | .o _::r,j+1=>t5 r j+1 | .d _::r,j+1=>t5 r j |_,_=>0
inductive Acc where
 |at (κ:AK) |al (x:Nat)
def Acc.ok:Acc->aP->Nat->Nat->Prop
 | .at κ,e,i,_=>jT κ e i
 | .al x,e,i,j=>∃k r ps,e[i]?=↑↑(.ag k ↑r ps)/\e[x]?=↑↑(.al r (t5 ps j))
instance (A:Acc) (e:aP) (i j:Nat):Decidable (A.ok e i j):=Classical.propDecidable _
def mz(A:Acc)(i j:Nat)(e:aP):Option k4:=if A.ok e i j then(cY e i).bind λx=>match x.2[j]? with |some (.o ds)=>↑ds |_=>none else none
def eL(K:kf)(H:Hp)(env:aP)(σ:St)(i j:Nat)(a:Addr):Prop:=∃k ps p us,cY env i=↑(k,ps)/\σ[i]?=↑↑(.ref p)/\dZ K H k p us/\us[j]?=↑(.ref a)
def Ku(X:Cx)(G:Gd)(H0:Hp)(A:Acc)(i j:Nat):TE:=λσ H Q=>∃W env ds,Ok X.K G H0 W env σ H/\mz A i j env=↑ds /\
 ∀a vs,eL X.K H env σ i j a->H a=↑(.lst vs)->aL X.K H (Ow G W) ds vs->Q (.ref a) H
structure lJ (X:Cx) (G:Gd) (H0:Hp) (e:Expr) (A:Acc) (i j:Nat):Prop where
 out:PE X e (Ku X G H0 A i j)
protected def aY.ix(h:aY K G W H ps as us)(e:ps[j]?=↑(.o ds)):∃a,us[j]?=↑(.ref a)/\as[t5 ps j]?=↑a:=by
 induction h generalizing j with
 |nil=>simp at e |d _ _ ih =>
   cases j with
   |zero=>simp at e |succ j=>obtain⟨a,h1,h2⟩:=ih (j:=j) (by simpa using e);exact⟨a,by simpa using h1,h2⟩
 | @o _ a _ _ _ _ _ _ _ _ ih =>
   cases j with
   |zero=>exact⟨a,rfl,rfl⟩ |succ j=>obtain⟨b,h1,h2⟩:=ih (j:=j) (by simpa using e);exact⟨b,by simpa using h1,by simpa[t5] using h2⟩
variable{k:AK}
def Ok.part(ok:Ok K G H0 W env σ H)(e:cY env i=↑(k,ps))(V:ps[j]?=↑(.o ds)):∃p us a vs,σ[i]?=↑↑(.ref p)/\dZ K H k p us/\us[j]?=↑(.ref a)/\H a=↑(.lst vs)/\aL K H (Ow G W) ds vs:=by
 unfold cY at e;split at e
 ·rename_i k' l ps' q
  cases e;obtain⟨v,D,p,as,us,rfl,_,_,_,I,S⟩:=ok.slot i _ q;obtain⟨a,vs,h1,_,_,h2,U⟩:=S.get V;exact⟨p,us,a,vs,D,I,h1,h2,U⟩
 ·rename_i k' ps' q
  cases e;obtain⟨v,D,p,us,rfl,_,I,S⟩:=ok.slot i _ q;obtain⟨a,vs,h1,_,h2,U⟩:=S.get V;exact⟨p,us,a,vs,D,I,h1,h2,U⟩
 ·cases e
variable{A:Acc}
def sQ(h:mz A i j env=↑ds):A.ok env i j/\∃k ps,cY env i=↑(k,ps)/\ps[j]?=↑(.o ds):=by
 unfold mz at h;split at h;case isFalse=>cases h
 rename_i D;cases e:cY env i with
 |none=>rw[e] at h;cases h
 |some x =>
   rw[e,ac] at h;split at h
   ·rename_i ds' q;cases h;exact⟨D,x.1,x.2,rfl,q⟩
   ·cases h
def eL.inj{a b:Addr}(h:eL K H env σ i j a)(h':eL K H env σ i j b):a=b:=by
 obtain⟨k,ps,p,us,h1,h2,V,Y⟩:=h;obtain⟨k',ps',p',Z,I,S,U,D⟩:=h';rw[h1] at I;cases I;rw[h2] at S;cases S;rw[yu V U.o] at D;rw[Y] at D;cases D;rfl
def yT{f:Str}{u:V}(D:fs.Nodup)(h1:fs[j]?=↑f)(h2:us[j]?=↑u):(fs.zip us).lookup f=↑u:=by
 induction fs generalizing us j with
 |nil=>simp at h1 |cons g r ih =>
   cases us with
   |nil=>simp at h2 |cons w us =>
     rw[l8,di];cases j with
     |zero=>simp at h1 h2;subst h1;subst h2;simp |succ j =>
       have I:(f==g)=false:=by simp;exact λz=>(ci.mp D).1 (z ▸ bh h1)
       rw[I];exact ih (ci.mp D).2 h1 (by simpa using h2)
def xy(c:oW X.K cn m)(an:bR Nn Cn X)(I:‹Nn[i]?=↑x›)(V:‹fs[j]?=↑m›)(Y:fs.Nodup:=by decide +kernel)(Z:‹attributeBase (.Name x p') m X.env (eval (.Name x p') X.env)=eval (.Name x p') X.env›):lJ X G H0 (.Attribute (.Name x p') m pos) (.at (.ins false cn fs)) i j:=let ⟨C,c,b,d⟩:=c;⟨(BL ((an.a I).pe) Z).imp λσ H Q e=>by
  obtain⟨W,env,ds,ok,q,k⟩:=e;obtain⟨f,κ,ps,D,g⟩:=sQ q;obtain⟨p,us,a,vs,h1,h2,S,h,n⟩:=ok.part D g;have o:κ=.ins false cn fs:=by
   rcases f with⟨l,ps',z⟩ | ⟨ps',z⟩ <;> (unfold cY at D;rw[z] at D;cases D;rfl)
  subst o;obtain⟨s,dx,r,U,t⟩:=id h2;rw[Cl.inj r d] at U;exact⟨_,h1,p,C,dx,_,_,rfl,U,c,b,yT Y V S,k a vs ⟨_,ps,p,us,D,h1,h2,S⟩ h n⟩⟩
def pb{ix:Nat}(an:bR Nn Cn X)(V:‹Nn[ix]?=↑x›):lJ X G H0 (.Name x pos) (.al ix) i j :=
 ⟨((an.a V).pe).imp λσ H Q l=>by
  obtain⟨W,env,ds,ok,q,k⟩:=l;obtain⟨⟨κ',r,ps',Y,m⟩,κ,ps,Z,b⟩:=sQ q;have S:cY env i=↑(κ',ps'):=by unfold cY;rw[Y]
  rw[S] at Z;cases Z;obtain⟨v,n,p,as,us,rfl,_,_,o,s,d⟩:=ok.slot i _ Y;obtain⟨y,t,u,e,f,I,U,rfl⟩:=ok.slot ix _ m;obtain⟨a,vs,h1,_,_,h2,w⟩:=d.get b;obtain⟨z,g,h⟩:=d.ix b;rw[h1] at g;cases g;have D:=o r rfl;have:f=a:=by
   cases κ' with
   |ls=>have D:G.r r=p::as:=D;rw[D] at I;cases I;rw[h] at U;cases U;rfl
   |ins bb c fs =>
     cases bb with
     |true=>have D:G.r r=[p]:=D;rw[D] at I;cases I;simp at U
     |false=>have D:G.r r=p::as:=D;rw[D] at I;cases I;rw[h] at U;cases U;rfl
  subst this;exact⟨_,t,k f vs ⟨_,ps',p,us,S,n,s,h1⟩ h2 w⟩⟩
def gJ(A:Acc)(i j:Nat):FE:=λe=>(mz A i j e).map λds=>(.int ds.length,e)
def DQ(h:lJ X G H0 e A i j)(D:Bn X "len":=by walk_at "b")(I:‹starEach [e] X.env=(false,eval e X.env)::starEach [] X.env›):aS X G H0 (.Call (.Name "len" p') [e] [] pos) (gJ A i j) :=
 ⟨(mu wI D.g D.m ye (om h.out tw I) (by decide) (by decide) I rfl).imp λσ H Q S=>by
  obtain⟨W,env,d,env',ok,q,k⟩:=S;unfold gJ at q;cases e1:mz A i j env with
  |none=>rw[e1] at q;cases q
  |some ds =>
    rw[e1] at q;cases q;exact⟨W,env,ds,ok,e1,λa vs _ U r=>⟨a,vs,rfl,.inl (.inl (.inl U)),by rw[<-r.length];exact k W _ H Step.refl ok ↥_⟩⟩⟩
def sR(A:Acc)(i j:Nat):FA:=λe=>(mz A i j e).map λds=>(ds,e)
def Kv(h:lJ X G H0 e A i j)(I:Bn X "list":=by walk_at "b")(S:‹starEach [e] X.env=(false,eval e X.env)::starEach [] X.env›):fW X G H0 (.Call (.Name "list" p') [e] [] pos) (sR A i j) :=
 ⟨(wE Cb I.g I.m C6 (om h.out tw S) (by decide) (by decide) S rfl).imp λσ H Q U=>by
  obtain⟨W,env,ds',env',ok,q,k⟩:=U;unfold sR at q;cases e1:mz A i j env with
  |none=>rw[e1] at q;cases q
  |some ds =>
    rw[e1] at q;cases q;refine⟨W,env,_,ok,e1,λa vs _ V r=>⟨a,vs,rfl,.inl (.inl (.inl V)),λl D=>?_⟩⟩;obtain⟨Y,f,Z,c,d⟩:=ok.fresh (H':=aX H l (.lst vs)) (ds:=ds') (uz D) D md ((r.mono (λ_ _ h=>h) λb us o h=>⟨⟨.inl o,λz=>by subst z;rcases h with h | ⟨_,h⟩ <;> rw[D] at h <;> cases h⟩,h⟩).mono (λb u h=>uz D b _ h) λb us o h=>⟨o,h.keep λo q=>uz D b _ q⟩);exact k W l vs _ d (ok.same (uz D)) Z Y md c⟩
structure JK (X:Cx) (e:Expr) (z:Int):Prop where
 out:PE X e (tC ↥z)
variable{jj:Nat}
def DR:JK X (.Constant ↥z jj pos) z:=⟨nF⟩
def DS(h:JK X e z):JK X (.UnaryOp .USub e pos) (-z):=⟨(B5 B7 h.out).imp λσ H Q q=>⟨z,rfl,q⟩⟩
def mM(A:Acc)(i j:Nat)(z:Int):FE:=λe=>(mz A i j e).bind λds=>(bG ds z).map λd=>(d,e)
def DT(h:lJ X G H0 e A i j)(D:JK X b z)(I:zb b:=by intro _ _;rfl):aS X G H0 (.Subscript e b pos) (mM A i j z) :=
 ⟨(nT rC h.out D.out I).imp λσ H Q S=>by
  obtain⟨W,env,d,env',ok,q,k⟩:=S;unfold mM at q;cases e1:mz A i j env with
  |none=>rw[e1] at q;cases q
  |some ds =>
    rw[e1,ac] at q;cases e2:bG ds z with
    |none=>rw[e2] at q;cases q
    |some d' =>
      rw[e2] at q;cases q;refine⟨W,env,ds,ok,e1,λa vs _ U r=>?_⟩;obtain⟨v,V,Y⟩:=m2 r e2;exact⟨a,vs,z,v,rfl,rfl,.inl (.inl U),V,k W v H Step.refl ok Y⟩⟩
def setP(e:aP)(i j:Nat)(ds:k4):aP:=match e[i]? with |some ↑(.ag k l ps)=>e.set i ↑(.ag k l (ps.set j (.o ds))) |_=>e
def Ok.setP{K:kf}{W:Addr->Prop}{H:Hp}{env:aP}{σ:St}{k:AK}{l:Option Nat}{ps:k7}{ds ds':k4}{a:Addr}{vs':kv}(ok:Ok K G H0 W env σ H)(e:env[i]?=↑↑(.ag k l ps))(I:ps[j]?=↑(.o ds))(S:eL K H env σ i j a)(r:aL K H (Ow G W) ds' vs') :
  Ok K G H0 W (L2.setP env i j ds') σ (aX H a (.lst vs'))/\Step W H W (aX H a (.lst vs')):=by
 obtain⟨k',ps',p,us,h1,h2,U,Y⟩:=S;have:cY env i=↑(k,ps):=by unfold cY;rw[e]
 rw[this] at h1;cases h1;unfold L2.setP;rw[e];exact ok.turnP e h2 U I Y r
def gT(A:Acc)(i j:Nat):FE:=λe=>match e[i]? with
 |some ↑(.ag _ _ _)=>(mz A i j e).bind λds=>(ds[ds.length-1]?).map λd=>(d,setP e i j ds.dropLast)
 |_=>none
variable{p1:Pos}
def sS(h:lJ X G H0 e A i j)(D:‹attributeBase e "pop" X.env (eval e X.env)=eval e X.env›)(I:‹(p1.endLine==pos.line)=true›) :
  aS X G H0 (.Call (.Attribute e "pop" p1) [] [] pos) (gT A i j):=⟨(Cd gw PySem.F.slot_list_pop PySem.F.type_list_pop Ch h.out D I).imp λσ H Q Z=>by
 obtain⟨W,env,d,env',ok,q,k⟩:=Z;unfold gT at q;split at q;case h_2=>cases q
 rename_i kk m pp S;cases e1:mz A i j env with
 |none=>rw[e1] at q;cases q
 |some ds =>
   rw[e1,ac] at q;cases e2:ds[ds.length-1]? with
   |none=>rw[e2] at q;cases q
   |some d' =>
     rw[e2] at q;cases q;obtain⟨_,κ,ps,U,b⟩:=sQ e1;have:cY env i=↑(kk,pp):=by unfold cY;rw[S]
     rw[this] at U;cases U;refine⟨W,env,ds,ok,e1,λa vs c V r=>⟨.inl ⟨rfl,_,.inl (.inl V)⟩,?_⟩⟩;obtain⟨u,f,g⟩:=r.get e2;obtain⟨l,Y⟩:=ok.setP S b c r.dropLast;exact⟨a,vs,u,rfl,rfl,V,by rw[<-r.length];exact f,k W _ _ Y l (ok.rep Y g)⟩⟩
def jJ(k:AK)(l:Option Nat):Prop:=l.isSome=true/\∀c fs,k≠.ins true c fs
instance (k:AK) (l:Option Nat):Decidable (jJ k l):=Classical.propDecidable _
variable{l:Option Nat}
def Kw{W1:Addr->Prop}{H1:Hp}{env1:aP}{S:k7}{d:k4}{a:Addr}(w:jJ k l)(ok:Ok K G H0 W env σ H)(f:Ok K G H0 W1 env1 σ H1)(e:env[i]?=↑↑(.ag k l ps))(x:env1[i]?=↑↑(.ag k l S))(y:ps[j]?=↑(.o ds))(g:S[j]?=↑(.o d))(z:t5 S j=t5 ps j)(A:eL K H env σ i j a):eL K H1 env1 σ i j a:=by
 obtain⟨r,rfl⟩:=my.mp w.1;obtain⟨v,h,p,as,us,rfl,_,_,h1,B,C⟩:=ok.slot i _ e;obtain⟨L,Y,p',U,m,rfl,_,_,n,q,s⟩:=f.slot i _ x;rw[h] at Y;cases Y;have V:=h1 r rfl;have I:=n r rfl;obtain⟨b,E,F⟩:=C.ix y;obtain⟨M,t,Z⟩:=s.ix g;have J:eL K H env σ i j b:=⟨k,ps,p,us,by unfold cY;rw[e],h,B,E⟩;have ab:=A.inj J;subst ab;have u:U=as:=by
  cases k with
  |ls=>have V:G.r r=p::as:=V;have I:G.r r=p::U:=I;rw[V] at I;cases I;rfl
  |ins bb c fs =>
    cases bb with
    |true=>exact absurd rfl (w.2 c fs) |false=>have V:G.r r=p::as:=V;have I:G.r r=p::U:=I;rw[V] at I;cases I;rfl
 subst u;rw[z,F] at Z;cases Z;exact⟨k,S,p,m,by unfold cY;rw[x],h,q,t⟩
instance (k k':AK):Decidable (k=k'):=Classical.propDecidable _
def kI(i j:Nat)(k0:AK)(I:Option Nat)(n:Nat)(d:D)(e:aP):Option (D×aP):=match e[i]? with
 |some ↑(.ag k l ps)=>(match ps[j]? with |some (.o ds)=>if k=k0/\l=I/\t5 ps j=n/\cI (ds.length+1) then ↑(.non,setP e i j (ds++[d])) else none |_=>none)
 |_=>none
def vm(A:Acc)(i j:Nat)(f:FE):FE:=λe=>match e[i]? with
 |some ↑(.ag k l ps)=>if jJ k l then(mz A i j e).bind λ_=>(f e).bind λr=>kI i j k l (t5 ps j) r.1 r.2 else none
 |_=>none
def sT(h:lJ X G H0 e A i j)(s:aS X G H0 a f)(I:‹attributeBase e "append" X.env (eval e X.env)=eval e X.env›)(Y:((backTo pos (starEach [a] X.env)).all (λx=>!x.1) && (backToKw pos (keywordEach [] X.env)).all (λx=>x.1.isSome)
   && decide ([a].length+([]:List Keyword).length+(if ([]:List Keyword).isEmpty then 0 else 1)<30))=true:=by rfl)(S:‹(p1.endLine==pos.line)=true›)(l:‹starEach [a] X.env=(false,eval a X.env)::starEach [] X.env›) :
  aS X G H0 (.Call (.Attribute e "append" p1) [a] [] pos) (vm A i j f):=⟨(rD gw PySem.F.slot_list_append PySem.F.type_list_append Cg h.out (om s.out tw l) I Y S l rfl).imp λσ H Q t=>by
 obtain⟨W,env,d,env',ok,q,k⟩:=t;unfold vm at q;split at q;case h_2=>cases q
 rename_i kk R pp m;split at q;case isFalse=>cases q
 rename_i Z;cases e1:mz A i j env with
 |none=>rw[e1] at q;cases q
 |some ds =>
   rw[e1,ac] at q;cases e2:f env with
   |none=>rw[e2] at q;cases q
   |some r =>
     rw[e2,ac] at q;unfold kI at q;split at q;case h_2=>cases q
     rename_i k1 T u D;split at q;case h_2=>cases q
     rename_i v U;split at q;case isFalse=>cases q
     rename_i w;obtain⟨rfl,rfl,y,c⟩:=w;cases q;obtain⟨_,κ,ps,n,z⟩:=sQ e1;have:cY env i=↑(k1,pp):=by unfold cY;rw[m]
     rw[this] at n;cases n;refine⟨W,env,ds,ok,e1,λad vs B C rr=>⟨.inl ⟨rfl,_,.inl (.inl C)⟩,W,env,r.1,r.2,ok,e2,λW1 v1 H1 E V J=>?_⟩⟩;have b:=Kw Z ok V m D z U y B;obtain⟨p,us,a1,g,K,L,M,N,o⟩:=V.part (i:=i) (by unfold cY;rw[D]) U;have:=b.inj ⟨_,_,p,us,by unfold cY;rw[D],K,L,M⟩;subst this;obtain⟨O,P⟩:=V.setP D U b (o.append (.cons J .nil));exact⟨ad,g,v1,rfl,rfl,N,by rw[<-o.length];exact lB (sw c),k W1 _ _ (E.trans P) O .non⟩⟩
def gU(i j:Nat):FE:=λe=>match e[i]? with
 |some ↑(.ag .ls _ ps)=>(match ps[j]? with |some (.d d)=>↑(d,e) |_=>none)
 |some ↑(.ro .ls ps)=>(match ps[j]? with |some (.d d)=>↑(d,e) |_=>none)
 |_=>none
def DU(an:bR Nn Cn X)(D:‹Nn[i]?=↑x›)(Y:zb (.Constant ↥(j:Int) jj p1):=by intro _ _;rfl):aS X G H0 (.Subscript (.Name x p') (.Constant ↥(j:Int) jj p1) pos) (gU i j) :=
 ⟨(nT rC ((an.a D).pe) nF Y).imp λσ H Q Z=>by
  obtain⟨W,env,d,env',ok,q,k⟩:=Z;unfold gU at q;split at q
  ·rename_i l ps I
   split at q;case h_2=>cases q
   rename_i d' hd;cases q;obtain⟨v,S,p,as,us,rfl,_,_,_,U,V⟩:=ok.slot i _ I;obtain⟨u,h1,h2⟩:=V.getD hd;exact⟨_,S,p,us,j,_,rfl,rfl,.inl (.inl U),BX h1,k W u H Step.refl ok h2⟩
  ·rename_i ps I
   split at q;case h_2=>cases q
   rename_i d' hd;cases q;obtain⟨v,S,p,us,rfl,_,U,V⟩:=ok.slot i _ I;obtain⟨u,h1,h2⟩:=V.getD hd;exact⟨_,S,p,us,j,_,rfl,rfl,.inl (.inl U),BX h1,k W u H Step.refl ok h2⟩
  ·cases q⟩
def vf(i j:Nat)(f:FE):FS:=λe=>(f e).bind λr=>match r.2[i]? with
 |some ↑(.ag .ls l ps)=>(match ps[j]? with |some (.d _)=>↑(.nx,r.2.set i ↑(.ag .ls l (ps.set j (.d r.1)))) |_=>none)
 |_=>none
variable{p2:Pos}
theorem sU(Z:aS X G H0 e f)(an:bR Nn Cn X)(S:‹Nn[i]?=↑x›)(b:‹swapsWithSole [.Subscript (.Name x p') (.Constant ↥(j:Int) jj p2) p1] e pos.line X.env=pure false›)(c:‹swappedStores [.Subscript (.Name x p') (.Constant ↥(j:Int) jj p2) p1] e X.env=pure none›)(h1:‹(assignEach [.Subscript (.Name x p') (.Constant ↥(j:Int) jj p2) p1] X.env).map (·.2)=[assign (.Subscript (.Name x p') (.Constant ↥(j:Int) jj p2) p1) X.env]›)(D:∀v,assign (.Subscript (.Name x p') (.Constant ↥(j:Int) jj p2) p1) X.env v=(do
   let ov <-holding [v] (eval (.Name x p') X.env);let iv <-holding [v,ov] (eval (.Constant ↥(j:Int) jj p2) X.env)
   standAt p1
   holding [v,ov,iv] (setItem ov iv v)
   release [v,ov,iv] []):=by intro _;rfl) :
  eR X G H0 (.Assign [.Subscript (.Name x p') (.Constant ↥(j:Int) jj p2) p1] e pos) (vf i j f):=⟨(nJ Z.out (qY ((an.a S).pe) nF mv D) b c h1).imp λDn σ H d=>by
 obtain⟨W,env,fl,env',ok,q,k⟩:=d;unfold vf at q;cases e1:f env with
 |none=>rw[e1] at q;cases q
 |some r =>
   rw[e1,ac] at q;split at q;case h_2=>cases q
   rename_i l ps U;split at q;case h_2=>cases q
   rename_i d' hd;cases q;refine⟨W,env,r.1,r.2,ok,e1,λW1 v1 H1 g I h=>?_⟩;obtain⟨v,V,p,as,us,rfl,_,_,_,Y,m⟩:=I.slot i _ U;obtain⟨u,h1,h2⟩:=m.getD hd;obtain⟨n,o⟩:=I.turnD U V Y hd h;have s:=(aj.mp h1).1;exact⟨_,V,p,us,j,j,rfl,rfl,Y,by unfold eI;rw[am ∅,am ∅];simp,k W1 _ _ (g.trans o) n⟩⟩
abbrev FG:=aP->Option (Ag×aP)
def DV(env:aP)(σ:St)(H:Hp)(s:Sl)(v:V):Prop:=∀(j:Nat) (s':Sl) (D:V) (a:Addr),env[j]?=↑↑s'->σ[j]?=↑↑D->bO H s v a->¬bO H s' D a
def Kx(X:Cx)(G:Gd)(H0:Hp)(f:FG):TE:=λσ H Q=>DP X.K G H0 f (λW env x env' =>
 ∀W' p H',Step W H W' H'->Ok X.K G H0 W' env' σ H'->dU X.K G W' H' (.ag x.1 none x.2) (.ref p)->DV env' σ H' (.ag x.1 none x.2) (.ref p)->Q (.ref p) H') σ H
structure pc (X:Cx) (G:Gd) (H0:Hp) (e:Expr) (f:FG):Prop where
 out:PE X e (Kx X G H0 f)
def pu(i:Nat)(f:FG):FS:=λe=>(f e).map λr=>(.nx,r.2.set i ↑(.ag r.1.1 none r.1.2))
def sV(f:FG):FS:=λe=>(f e).map λr=>(.ra r.1.1 r.1.2,r.2)
variable{G':Gd}
def Ok.newA(ok:Ok K G H0 W env σ H)(sm:bC H H')(Y:∀a,W' a->H a=none)(A:∀a,W' a->∃m:Mo,H' a=↑m.out)(B:∀a,G' a->Ow G W a\/H a=none){k':AK}{p:Addr}(g:∀us,dZ K H' k p us->dZ K H' k' p us)(h:dU K G' W' H' (.ag k l ps) (.ref p)) :
  Ok K G H0 (λa=>W a\/W' a) env σ H'/\Step W H (λa=>W a\/W' a) H'/\dU K G (λa=>W a\/W' a) H' (.ag k' none ps) (.ref p)/\DV env σ H' (.ag k' none ps) (.ref p):=by
 have st:Step W H (λa=>W a\/W' a) H':=⟨λb o e _=>sm b o e,λa z=>z.imp id (Y a)⟩;have D:=ok.same sm;have Z:Ok K G H0 (λa=>W a\/W' a) env σ H':=by
  refine⟨D.stay,ok.good,λa z=>?_,λi s e=>?_,D.uniq,ok.len⟩
  ·rcases z with z |z
   ·exact D.wl a z
   ·exact⟨ok.stay.free (Y a z),A a z⟩
  ·obtain⟨v,c,q⟩:=ok.slot i s e
   exact⟨v,c,ok.slstep st q λa m o f=>⟨.inl (q.owns o),sm _ _ f⟩⟩
 obtain⟨p',as,us,e,t,C,L,I,S⟩:=h;cases e;have u:∀(a:Addr) (us:kv),Ow G' W' a->Rd H' a (.lst us)->Ow G (λa=>W a\/W' a) a/\Rd H' a (.lst us):=λa us o q=>⟨by
  rcases B a o.1 with z |z
  ·exact⟨z.1,λy=>y.elim z.2 o.2⟩
  ·exact⟨ok.good a (ok.stay.free z),λy=>y.elim (λw=>by obtain⟨_,m,q⟩:=ok.wl a w;rw[z] at q;cases q) o.2⟩,q⟩
 refine⟨Z,st,⟨p,as,us,rfl,.inr t,C,(λn z=>nomatch z),g us I,S.step (λa vs U z=>⟨.inr (S.own U).1,z⟩) (λd v r=>r.mono (λ_ _ h=>h) u) λd v r=>r.mono (λ_ _ h=>h) u⟩,λj s v a c f E F=>?_⟩;have J:W' a:=by
  rcases E with o | ⟨p',us',z,q,U⟩
  ·cases o;exact t
  ·cases z
   rw[yu (g us I) q] at U;exact(S.own (S.parts_iff.mp U)).1
 obtain⟨M,x,q⟩:=D.slot j s c;rw[f] at x;cases x;obtain⟨_,m,z⟩:=ok.wl a (q.owns F);rw[Y a J] at z;cases z
variable{g:FG}
def DW(I:eJ Nn X)(h:pc X G H0 e g)(D:‹Nn[i]?=↑y›)(U:‹swapsWith e ↑(.Name y p') pos.line X.env=pure false›) :
  eR X G H0 (.Assign [.Name y p'] e pos) (pu i g):=⟨(qZ (I.t D).nd (I.t D).n (I.t D).l h.out U (I.t D).f).imp λDn σ H V=>by
 obtain⟨W,env,fl,env',ok,q,k⟩:=V;unfold pu at q;cases e1:g env with
 |none=>rw[e1] at q;cases q
 |some r =>
   rw[e1] at q;cases q;exact⟨W,env,r.1,r.2,ok,e1,λW1 p H1 Y S sl Z=>k W1 _ H1 Y (S.put sl Z)⟩⟩
def Ky(h:pc X G H0 e g):eR X G H0 (.Return ↑e pos) (sV g):=⟨(nG h.out).imp λDn σ H I=>by
 obtain⟨W,env,fl,env',ok,q,k⟩:=I;unfold sV at q;cases e1:g env with
 |none=>rw[e1] at q;cases q
 |some r =>
   rw[e1] at q;cases q;exact⟨W,env,r.1,r.2,ok,e1,λW1 p H1 S D sl U=>k W1 σ p H1 S D sl⟩⟩
def sW(K:kf)(m:k4->Option Ag)(x:k4->ka):Sp:=λvs H Q E=>∃O ds,aL K H O ds vs /\
 ((∃y,m ds=↑y/\∀(W':Addr->Prop) p H',bC H H'->(∀a,W' a->H a=none)->(∀a,W' a->∃m:Mo,H' a=↑m.out)->dU K (gd λa=>O a\/H a=none) W' H' (.ag y.1 none y.2) (.ref p)->Q (.ref p) H')\/∃c,x ds=↑c/\∀C H',Cl K c C->bC H H'->E (.ref C) none H')
def iQ(n ar:Nat)(g:FS):k4->Option Ag:=λds=>if ds.length=ar then(match g (ki n ds) with |some (.ra k ps,_)=>↑(k,ps) |_=>none) else none
def xG(n ar:Nat)(g:FS):k4->ka:=λds=>if ds.length=ar then(match g (ki n ds) with |some (.xc c,_)=>↑c |_=>none) else none
variable{k:Nat}{ps:h6}{g:FP}
theorem Kz{f:Addr}{g:FS}(F:hB K x qual st f fd)(S:ut N ps (ip st))(Y:n=N.length)(Z:ar=ps.length)(I:∀(cdv:Value) (A:Around) (outer:i0) (s:Shared) (H:Hp) (E:XK) (G:Gd) (H0:Hp),bA k (A.deeper (envOfC qual (ip st) s.heap.objs.size f cdv)) ->
   gA (cG (dG P w) P w K mg base N qual (ip st) f cdv A outer s H E) G H0 (ny st) g):cJ P w K mg base (dG P w) (k+1) f fd ps (sW K (iQ n ar g) (xG n ar g)):=by
 subst Y Z;refine F.okX S (λvs H Q E h=>?_) (λcdv A outer s H vs Q E b h=>?_)
 ·obtain⟨O,ds,r,h⟩:=h
  rw[<-r.length];rcases h with⟨y,e,_⟩ | ⟨c,e,_⟩
  ·unfold iQ at e;split at e
   ·assumption
   ·cases e
  ·unfold xG at e;split at e
   ·assumption
   ·cases e
 ·obtain⟨O,ds,r,h⟩:=h
  refine⟨_,(I cdv A outer s H E (gd λa=>O a\/H a=none) H b).out,?_⟩;rcases h with⟨y,e,k⟩ | ⟨c,e,k⟩
  ·unfold iQ at e
   split at e;case isFalse=>cases e
   split at e
   ·rename_i k' ps' env' U
    cases e;exact⟨dA,_,_,env',xz r,U,λW' V p H' st D sl=>k W' p H' D.stay (λa z=>(st.ws a z).elim (λz=>z.elim) id) (λa z=>(D.wl a z).2) sl⟩
   ·cases e
  ·unfold xG at e
   split at e;case isFalse=>cases e
   split at e
   ·rename_i j env' U
    cases e;exact⟨dA,_,_,env',xz r,U,λW' V H' d i st D pins e s' xs=>xN xs (k d H' i D.stay)⟩
   ·cases e
def sX(m:k4->Option Ag)(F:FA):FG:=λe=>(F e).bind λr=>(m r.1).map λy=>(y,r.2)
def K0{m:k4->Option Ag}{xx:k4->ka}(c:bN X.prog X.w X.K X.mg X.base (dG X.prog X.w) x k (sW X.K m xx))(Y:bA jr X.A)(Z:e_ X G H0 (e::es) F)(I:k<=jr:=by decide)(b:Gl X x:=by walk_at "g")(d:‹starEach (e::es) X.env=(false,eval e X.env)::starEach es X.env›)(S:‹(backTo pos (starEach es X.env)).any (·.1)=false›) :
  pc X G H0 (.Call (.Name x p') (e::es) [] pos) (sX m F):=let ⟨_,_,_,f,g,h,i,U⟩:=c;⟨(oX f (Y.mono I) b g h i Z.out U d S).imp λσ H Q j=>by
 obtain⟨W,env,y,env',ok,q,k⟩:=j;unfold sX at q;cases e1:F env with
 |none=>rw[e1] at q;cases q
 |some r =>
   rw[e1,ac] at q;cases e2:m r.1 with
   |none=>rw[e2] at q;cases q
   |some y' =>
     rw[e2] at q;cases q;refine⟨W,env,r.1,r.2,ok,e1,λW1 vs H1 l V n=>⟨Ow G W1,r.1,n,.inl ⟨_,e2,λW' p H' sm o s sl=>?_⟩⟩⟩;obtain⟨t,u,v,B⟩:=V.newA sm o s (λa z=>z) (k':=y.1) (λus z=>z) sl;exact k _ p H' (l.trans u) t v B⟩
def pw(c:Str)(m:k9->k4->la)(F:FA):FG:=λe=>(F e).bind λr=>(m [(.ins true c [],[])] r.1).bind λq=>match q with
 | (.non,[(.ins true c' fs,ps)])=>↑((.ins false c' fs,ps),r.2) |_=>none
def K1{D dx:Addr}(ok:Ok K G H0 W env σ H)(V:Cl K cn C)(h1:H D=none)(h2:H dx=none)(g:dx≠D)(r:aL K H (Ow G W) ds vs) :
  bC H (aX (aX H dx (.own D)) D (.ins C dx [])) /\
  Ok K ⟨Ow G W,λ_=>[D]⟩ (fN (aX (aX H dx (.own D)) D (.ins C dx [])) (λb=>b=D)) (λb=>b=D) (re [(.ins true cn [],[])]) [↑(.ref D)] (aX (aX H dx (.own D)) D (.ins C dx [])) /\
  aL K (aX (aX H dx (.own D)) D (.ins C dx [])) (Ow ⟨Ow G W,λ_=>[D]⟩ (λb=>b=D)) ds vs:=by
 have sm:bC H (aX (aX H dx (.own D)) D (.ins C dx [])):=λb o e=>by rw[i4 (ql e h1),i4 (ql e h2)];exact e
 have S:∀a,H a=none->Ow G W a:=λa z=>⟨ok.good a (ok.stay.free z),λw=>by obtain⟨_,m,q⟩:=ok.wl a w;rw[z] at q;cases q⟩;refine⟨sm,⟨λa o e=>(DG e).2,λa e=>?_,λa e=>⟨yH e,.i C dx [],by rw[show a=D from e,md]⟩,λI s e=>?_,λI Y s s' v j b Z c k l p t=>?_,rfl⟩,?_⟩
 ·rcases DH e with z |z
  ·rw[show a=D from z];exact S D h1
  ·refine S a ?_
   by_cases y:a=D
   ·rw[y];exact h1
   ·rw[i4 y] at z
    by_cases U:a=dx
    ·rw[U];exact h2
    ·rwa [i4 U] at z
 ·obtain⟨x,q,rfl⟩:=sI e
  cases I with
  |zero =>
    simp at q;subst q;exact⟨.ref D,rfl,D,[],[],rfl,rfl,by simp,λn _=>rfl,⟨C,dx,V,md,rfl⟩,.nil⟩
  |succ n=>simp at q
 ·obtain⟨_,d,_⟩:=sI Z
  obtain⟨_,f,_⟩:=sI c;cases I with
  |zero=>cases Y with
    |zero=>rfl |succ n=>simp at f
  |succ n=>simp at d
 ·refine r.mono (λa u z=>sm _ _ z) λa us o h=>⟨⟨o,λz=>?_⟩,h.keep λo z=>sm _ _ z⟩
  rw[show a=D from z] at h;rcases h with h | ⟨_,h⟩ <;> (have h2:=h1.symm.trans h;cases h2)
def K2{m:k9->k4->la}(c:lG X.prog X.w X.K X.mg X.base x k (gB X.K m xx))(Y:bA jr X.A)(s:e_ X G H0 (e::es) F)(Z:k+1<=jr:=by decide)(t:Gl X x:=by walk_at "g")(u:‹starEach (e::es) X.env=(false,eval e X.env)::starEach es X.env›)(d:‹(backTo pos (starEach es X.env)).any (·.1)=false›) :
  pc X G H0 (.Call (.Name x p') (e::es) [] pos) (pw x m F):=let ⟨_,_,_,_,M,B,C,E,J,f⟩:=c;⟨(Ko M B (Y.mono Z) t C E s.out f u d).imp λσ H Q L=>by
 obtain⟨W,env,y,env',ok,q,k⟩:=L;unfold pw at q;cases e1:F env with
 |none=>rw[e1] at q;cases q
 |some r =>
   rw[e1,ac] at q;cases e2:m [(.ins true x [],[])] r.1 with
   |none=>rw[e2] at q;cases q
   |some z =>
     rw[e2,ac] at q;split at q;case h_2=>cases q
     rename_i j S ps';cases q;refine⟨W,env,r.1,r.2,ok,e1,λW1 vs H1 N U O I dx h1 h2 P=>?_⟩;obtain⟨sm,g,Y⟩:=K1 U J h1 h2 P O;refine⟨_,_,_,_,[.ref I],r.1,vs,rfl,rfl,g,Y,.inl ⟨_,_,e2,λW' en R v H' st V T rp=>⟨rp.non_,?_⟩⟩⟩;have hs:=T 0 _ rfl;obtain⟨v',z1,n⟩:=V.slot 0 _ hs;have ev:v'=.ref I:=by
      obtain⟨p,as,us,rfl,_,_,h,_⟩:=n;have h:([I]:ia)=[p]:=h 0 rfl;cases h;rfl
     subst ev;have i:bC H1 H':=λb o z=>st.keep b o (sm b o z) λy=>by rw[show b=I from y,h1] at z;cases z
     have hn:∀a,W' a->H1 a=none:=λa z=>by
      rcases st.ws a z with y |y
      ·rw[show a=I from y];exact h1
      ·cases q:H1 a with
       |none=>rfl |some o=>rw[sm a o q] at y;cases y
     obtain⟨w1,w2,w3,w4⟩:=U.newA (G':=⟨Ow G W1,λ_=>[I]⟩) (k:=.ins true j S) (l:=↑0) (ps:=ps') (p:=I) (k':=.ins false j S) i hn (λa z=>(V.wl a z).2) (λa z=>.inl z) (λus z=>z) n;exact k _ I H' (N.trans w2) w1 w3 w4⟩
mutual
def noL:D->Bool
 | .lst _=>false | .dct _ _=>false | .tup ds=>noLs ds |_=>true
def noLs:k4->Bool
 | []=>true |d::r=>noL d && noLs r
end
def bB.noL{d:D}{v:V}:bB K H O d v->L2.noL d=true->bB K H O' d v :=
 bB.rec (motive_1:=λd v _=>L2.noL d=true->bB K H O' d v) (motive_2:=λds vs _=>L2.noLs ds=true->aL K H O' ds vs) (λ_=>.non) (λb _=>.bl b) (λb _=>.int b) (λb _=>.str b) (λh _ q e=>.tup h (q (by rw[L2.noL] at e;exact e))) (λ_ _ _ _ e=>by rw[L2.noL] at e;cases e) (λ_ _ _ e=>by rw[L2.noL] at e;cases e) (λ_ _ _ e=>by rw[L2.noL] at e;cases e) (λa _=>.exc a) (λ_=>.nil) λ_ _ p q e=>by rw[L2.noLs,d9] at e;exact .cons (p e.1) (q e.2)
def aL.noLs{ds:k4}{vs:kv}:aL K H O ds vs->L2.noLs ds=true->aL K H O' ds vs :=
 aL.ind (P:=λds vs=>L2.noLs ds=true->aL K H O' ds vs) (λ_=>.nil) λr _ q e=>by rw[L2.noLs,d9] at e;exact .cons (r.noL e.1) (q e.2)
def lK:Pt->D | .d d=>d | .o ds=>.lst ds
def wc(r:Nat):aP->Option k7
 | []=>none |some (.ag .ls ↑r' ps)::e=>if r'=r then ↑ps else wc r e
 |_::e=>wc r e
def xl:k7->Nat->Option k4
 | .o ds::_,0=>↑ds | .o _::r,j+1=>xl r j | .d _::r,j=>xl r j | [],_=>none
def sY(b:Bool)(ps:k7):k7:=if b=true then ps.map λp=>.d (lK p) else ps
def p3(b:Bool)(env:aP):k8->k8
 |some (.sh d)=>⇑d |some (.ow ds)=>⇑(.lst ds) |some (.o2 dss)=>⇑(.lst (dss.map D.lst)) |some (.ag .ls _ ps)=>⇑(.lst (ps.map lK)) |some (.ag k _ ps)=>↑(.ro k (sY b ps)) |some (.ro .ls ps)=>⇑(.lst (ps.map lK)) |some (.ro k ps)=>↑(.ro k (sY b ps)) |some (.al r j)=>(wc r env).bind λps=>(xl ps j).map λds=>.sh (.lst ds) |none=>none
def frz(b:Bool)(env:aP):aP:=env.map (p3 b env)
def iB(r:Nat->ia):Gd:=⟨λ_=>True,r⟩
def yU{r:Nat}{ps:k7}:∀ {env:aP},wc r env=↑ps->∃i:Nat,env[i]?=↑↑(Sl.ag AK.ls ↑r ps)
 |x::e,h=>by
   unfold wc at h;split at h
   ·rename_i D;cases D
   ·rename_i S ps' e' q
    cases q;split at h
    ·rename_i I;cases h;subst I;exact⟨0,rfl⟩
    ·obtain⟨i,z⟩:=yU h;exact⟨i+1,by simpa using z⟩
   ·rename_i q
    cases q;obtain⟨i,z⟩:=yU h;exact⟨i+1,by simpa using z⟩
variable{a:Addr}{ps:k7}
def K3(h:aY K G W H ps as us)(e:xl ps j=↑ds)(ea:as[j]?=↑a):∃vs,H a=↑(.lst vs)/\aL K H (Ow G W) ds vs:=by
 induction h generalizing j with
 |nil=>cases e
 |d _ _ ih=>exact ih e ea |o hW hl r _ ih =>
   cases j with
   |zero=>cases e;simp at ea;subst ea;exact⟨_,hl,r⟩
   |succ j=>exact ih (j:=j) e (by simpa using ea)
def bH.all(h:bH K G W H ps us)(D:∀a,O a):aL K H O (ps.map lK) us:=by
 induction h with
 |nil=>exact .nil |d r _ ih=>exact .cons ((oh λa _=>D a).1 _ _ r) ih |o _ hl r _ ih=>exact .cons (.lst (D _) (.inl hl) ((oh λa _=>D a).2 _ _ r)) ih
def bH.roG(h:bH K G W H ps us)(D:∀a,Ow G W a->Ow G' dA a):bH K G' dA H ps us :=
 h.step (λa vs _ z=>⟨λz=>z,z⟩) (λd v q=>(oh D).1 d v q) λd v q=>(oh D).2 d v q
def aY.toRo(h:aY K G W H ps as us)(D:∀a,Ow G W a->Ow G' dA a):bH K G' dA H ps us :=
 bH.roG (W:=dA) (G:=gd (Ow G W)) h.ro λa z=>D a z.1
def bH.dat(h:bH K G W H ps us)(D:∀a,Ow G W a):bH K G W H (ps.map λp=>.d (lK p)) us:=by
 induction h with
 |nil=>exact .nil |d r _ ih=>exact .d r ih |o _ hl r _ ih=>exact .d (.lst (D _) (.inl hl) r) ih
def bH.roB(b:Bool)(h:bH K G W H ps us)(D:∀a,Ow G W a):bH K G W H (sY b ps) us:=by
 unfold sY;split
 ·exact h.dat D
 ·exact h
def Ok.freeze(b:Bool)(ok:Ok K G H0 W env σ H):Ok K (iB G.r) H dA (frz b env) σ H:=by
 have V:∀a,Ow G W a->Ow (iB G.r) dA a:=λa _=>⟨trivial,λz=>z⟩;have all:∀a,Ow (iB G.r) dA a:=λa=>⟨trivial,λz=>z⟩;have Y:∀(i:Nat) (s:Sl),(frz b env)[i]?=↑↑s->∃I,env[i]?=↑↑I/\p3 b env ↑I=↑s:=λi s e=>by
  unfold frz at e;rw[cb] at e;cases q:env[i]? with
  |none=>rw[q] at e;cases e
  |some o =>
    rw[q] at e;cases o with
    |none=>cases e
    |some I=>exact⟨I,rfl,by simpa using e⟩
 refine⟨bC.refl _,λa _=>trivial,λl z=>z.elim,λi s e=>?_,λi j s s' v x a D _ F _ o _=>?_,by unfold frz;rw[ai];exact ok.len⟩
 ·obtain⟨I,w,D⟩:=Y i s e
  obtain⟨v,A,h⟩:=ok.slot i I w;refine⟨v,A,?_⟩;cases I with
  |sh d=>cases D;exact(oh V).1 _ _ h
  |ow ds=>cases D;obtain⟨l,vs,rfl,g,S,r⟩:=h;exact .lst (all l) (.inl S) ((oh V).2 _ _ r)
  |o2 dss =>
    cases D;obtain⟨l,ls,rfl,g,S,B,hi⟩:=h;exact .lst (all l) (.inl S) (w_ (W':=dA) (G:=iB G.r) (W:=W) ⟨hi.1,λj ds a f m=>let ⟨n,vs,t,C⟩:=hi.2 j ds a f m;⟨n,vs,t,(oh λb z=>⟨trivial,z.2⟩).2 _ _ C⟩⟩ (λa _ _=>all a) λds vs r=>(oh λb _=>all b).2 _ _ r)
  |ag k l ps =>
    obtain⟨p,as,us,rfl,g,B,S,Z,U⟩:=h;cases k with
    |ls=>cases D;exact .lst (all p) (.inl Z) ((U.toRo V).all all)
    |ins _ c fs=>cases D;exact⟨p,us,rfl,λz=>z,Z,(U.toRo V).roB b all⟩
  |ro k ps =>
    obtain⟨p,us,rfl,g,Z,U⟩:=h;cases k with
    |ls=>cases D;exact .lst (all p) (.inl Z) (U.all all)
    |ins _ c fs=>cases D;exact⟨p,us,rfl,λz=>z,Z,(U.roG V).roB b all⟩
  |al r j =>
    have D:((wc r env).bind λps=>(xl ps j).map λds=>Sl.sh (.lst ds))=↑s:=D;cases q1:wc r env with
    |none=>rw[q1] at D;cases D
    |some ps =>
      rw[q1,ac] at D;cases q2:xl ps j with
      |none=>rw[q2] at D;cases D
      |some ds =>
        rw[q2] at D;cases D;obtain⟨p,as,a,f,m,rfl⟩:=h;obtain⟨E,y⟩:=yU q1;obtain⟨x,J,p',u,us,rfl,_,_,S,_,U⟩:=ok.slot E _ y;have S:G.r r=p'::u:=S r rfl;rw[S] at f;cases f;obtain⟨vs,n,t⟩:=K3 U q2 m;exact .lst (all a) (.inl n) ((oh V).2 _ _ t)
 ·obtain⟨I,w,D⟩:=Y i s D
  cases I with
  |sh d=>cases D;exact o.elim
  |ow d=>cases D;exact o.elim
  |o2 d=>cases D;exact o.elim
  |ag k l ps=>cases k <;> (cases D;exact o.elim)
  |ro k ps=>cases k <;> (cases D;exact o.elim)
  |al r j =>
    have D:((wc r env).bind λps=>(xl ps j).map λds=>Sl.sh (.lst ds))=↑s:=D;cases q1:wc r env with
    |none=>rw[q1] at D;cases D
    |some ps =>
      rw[q1,ac] at D;cases q2:xl ps j with
      |none=>rw[q2] at D;cases D
      |some ds=>rw[q2] at D;cases D;exact o.elim
def Step.noW(s:Step dA H W' H'):bC H H':=λb o e=>s.keep b o e λz=>z
def cZ(b:Bool)(f:FE):FE:=λe=>(f (frz b e)).bind λr=>if noL r.1=true then ↑(r.1,e) else none
def wb(b:Bool)(f:FA):FA:=λe=>(f (frz b e)).bind λr=>if noLs r.1=true then ↑(r.1,e) else none
def fH(b:Bool)(x:XF):XF:=λe=>(x (frz b e)).map λr=>(r.1,e)
section
variable {X:Cx} {G:Gd} {H0:Hp} {e:Expr} {es:j0} {f:FE} {F:FA} {F2:kF} {y:XF}
def wq{b:Bool}(h:∀G H0,aS X G H0 e f):aS X G H0 e (cZ b f):=⟨λpins s σ H Q I D=>by
 obtain⟨W,env,d,env',ok,q,k⟩:=D;unfold cZ at q;cases e1:f (frz b env) with
 |none=>rw[e1] at q;cases q
 |some r =>
   rw[e1,ac] at q;split at q;case isFalse=>cases q
   rename_i S;cases q;refine(h (iB G.r) H).out pins s σ H Q I ⟨dA,frz b env,r.1,r.2,ok.freeze b,e1,λW' v H' st U V=>?_⟩;exact k W v H' (Step.same st.noW) (ok.same st.noW) (V.noL S)⟩
def DX{b:Bool}(h:∀G H0,fW X G H0 e F):fW X G H0 e (wb b F):=⟨λpins s σ H Q I U=>by
 obtain⟨W,env,d,env',ok,q,k⟩:=U;unfold wb at q;cases e1:F (frz b env) with
 |none=>rw[e1] at q;cases q
 |some r =>
   rw[e1,ac] at q;split at q;case isFalse=>cases q
   rename_i V;cases q;refine(h (iB G.r) H).out pins s σ H Q I ⟨dA,frz b env,r.1,r.2,ok.freeze b,e1,λW' l vs H' st Y Z i S a=>?_⟩;have D:H l=none:=(st.ws l (.inr rfl)).elim (λz=>z.elim) id;obtain⟨c,j,f,g⟩:=ok.fresh0 (H':=H') st.noW D S;exact k W l vs H' g (ok.same st.noW) f c S (a.noLs V)⟩
def sZ{b:Bool}(h:∀G H0,JX X G H0 e y):JX X G H0 e (fH b y):=⟨λpins s σ H Q I D=>by
 obtain⟨W,env,c,env',ok,q,k⟩:=D;unfold fH at q;cases e1:y (frz b env) with
 |none=>rw[e1] at q;cases q
 |some r =>
   rw[e1] at q;cases q;exact(h (iB G.r) H).out pins s σ H Q I ⟨dA,frz b env,r.1,r.2,ok.freeze b,e1,λW' H' C S st U=>k W H' C S (Step.same st.noW) (ok.same st.noW)⟩⟩
end
def Ok.newW(ok:Ok K G H0 W env σ H)(sm:bC H H')(I:∀a,W' a->H a=none)(S:∀a,W' a->∃m:Mo,H' a=↑m.out):Ok K G H0 (λa=>W a\/W' a) env σ H'/\Step W H (λa=>W a\/W' a) H':=by
 have st:Step W H (λa=>W a\/W' a) H':=⟨λb o e _=>sm b o e,λa z=>z.imp id (I a)⟩;have D:=ok.same sm;refine⟨⟨D.stay,ok.good,λa z=>?_,λi s e=>?_,D.uniq,ok.len⟩,st⟩
 ·rcases z with z |z
  ·exact D.wl a z
  ·exact⟨ok.stay.free (I a z),S a z⟩
 ·obtain⟨v,U,q⟩:=ok.slot i s e
  exact⟨v,U,ok.slstep st q λa m o V=>⟨.inl (q.owns o),sm _ _ V⟩⟩
section
variable {X:Cx} {G:Gd} {H0:Hp} {e:Expr} {F2:kF}
end
def jK:k8->k8
 |some (.sh d)=>⇑d |some (.ag k _ ps)=>↑(.ro k ps) |some (.ro k ps)=>↑(.ro k ps) |_=>none
def dE(env:aP):aP:=env.map jK
def i_(G:Gd)(W:Addr->Prop)(H:Hp):Gd:=⟨λa=>Ow G W a\/H a=none,G.r⟩
def Ok.freezeS(ok:Ok K G H0 W env σ H):Ok K (i_ G W H) H dA (dE env) σ H:=by
 have U:∀a,Ow G W a->Ow (i_ G W H) dA a:=λa z=>⟨.inl z,λz=>z⟩;have S:∀(i:Nat) (s:Sl),(dE env)[i]?=↑↑s->∃I,env[i]?=↑↑I/\jK ↑I=↑s:=λi s e=>by
  unfold dE at e;rw[cb] at e;cases q:env[i]? with
  |none=>rw[q] at e;cases e
  |some o =>
    rw[q] at e;cases o with
    |none=>cases e
    |some I=>exact⟨I,rfl,by simpa using e⟩
 refine⟨bC.refl _,λa z=>.inr z,λl z=>z.elim,λi s e=>?_,λi j s s' v f a D _ g _ o _=>?_,by unfold dE;rw[ai];exact ok.len⟩
 ·obtain⟨I,Z,D⟩:=S i s e
  obtain⟨v,b,h⟩:=ok.slot i I Z;refine⟨v,b,?_⟩;cases I with
  |sh d=>cases D;exact(oh U).1 _ _ h
  |ow ds=>cases D
  |o2 dss=>cases D
  |ag k l ps=>cases D;obtain⟨p,as,us,rfl,c,m,n,V,Y⟩:=h;exact⟨p,us,rfl,λz=>z,V,Y.toRo U⟩
  |ro k ps=>cases D;obtain⟨p,us,rfl,c,V,Y⟩:=h;exact⟨p,us,rfl,λz=>z,V,Y.roG U⟩
  |al r j=>cases D
 ·obtain⟨I,Z,D⟩:=S i s D
  cases I <;> cases D <;> exact o.elim
def aY.length(h:aY K G W H ps as us):ps.length=us.length:=by
 induction h with
 |nil=>rfl |d _ _ ih=>rw[ao,ao,ih] |o _ _ _ _ ih=>rw[ao,ao,ih]
abbrev FP:=aP->Option k7
def K4(X:Cx)(G:Gd)(H0:Hp)(f:FP):TA:=λσ H Q=>∃W env ps,Ok X.K G H0 W env σ H/\f env=↑ps /\
 ∀as us H',bC H H'->as.Nodup->(∀a∈as,H a=none)->aY X.K (i_ G W H) (λa=>a∈as) H' ps as us->Q us H'
structure mO (X:Cx) (G:Gd) (H0:Hp) (es:j0) (f:FP):Prop where
 out:PA X es (K4 X G H0 f)
def lL:FP:=λ_=>↑[]
def p4(f:FE)(g:FP):FP:=λe=>(f (dE e)).bind λr=>(g e).map λt=>.d r.1::t
def p5(F:FA)(g:FP):FP:=λe=>(F (dE e)).bind λr=>(g e).map λt=>.o r.1::t
def Rd.some{u:HO}(h:Rd H a u):H a≠none:=λz=>by rcases h with h | ⟨_,h⟩ <;> rw[z] at h <;> cases h
def K5  : mO X G H0 [] lL:=⟨tw.imp λσ H Q D=>by
 obtain⟨W,env,ps,ok,q,k⟩:=D;cases q;exact k [] [] H (bC.refl _) .nil (λa z=>by cases z) .nil⟩
def DY(h:∀G H0,aS X G H0 e f)(S:mO X G H0 es g)(U:‹starEach (e::es) X.env=(false,eval e X.env)::starEach es X.env›):mO X G H0 (e::es) (p4 f g):=⟨λpos pins s σ H Q I V=>by
 obtain⟨W,env,ps,ok,q,k⟩:=V;unfold p4 at q;cases e1:f (dE env) with
 |none=>rw[e1] at q;cases q
 |some r =>
   rw[e1,ac] at q;cases e2:g env with
   |none=>rw[e2] at q;cases q
   |some t =>
     rw[e2] at q;cases q;refine(om (h (i_ G W H) H).out S.out U) pos pins s σ H Q I ⟨dA,dE env,r.1,r.2,ok.freezeS,e1,λW1 v H1 st Y Z=>?_⟩;refine⟨W,env,t,ok.same st.noW,e2,λas us H2 sm b D c=>?_⟩;refine k as (v::us) H2 (st.noW.trans sm) b (λa z=>st.noW.free (D a z)) (.d (Z.mono (λa u z=>sm _ _ z) λa vs o z=>⟨⟨o.1,λy=>z.some (D a y)⟩,z.keep λo y=>sm _ _ y⟩) (c.step (λa vs i z=>⟨i,z⟩) (λd v q=>(oh ?_).1 d v q) λd v q=>(oh ?_).2 d v q)) <;>
     exact λa z=>⟨z.1.imp id λy=>st.noW.free y,z.2⟩⟩
def DZ(h:∀G H0,fW X G H0 e F)(b:mO X G H0 es g)(c:‹starEach (e::es) X.env=(false,eval e X.env)::starEach es X.env›):mO X G H0 (e::es) (p5 F g):=⟨λpos pins s σ H Q I f=>by
 obtain⟨W,env,ps,ok,q,k⟩:=f;unfold p5 at q;cases e1:F (dE env) with
 |none=>rw[e1] at q;cases q
 |some r =>
   rw[e1,ac] at q;cases e2:g env with
   |none=>rw[e2] at q;cases q
   |some t =>
     rw[e2] at q;cases q;refine(om (h (i_ G W H) H).out b.out c) pos pins s σ H Q I ⟨dA,dE env,r.1,r.2,ok.freezeS,e1,λW1 l vs H1 st i j C D m=>?_⟩;have Y:H l=none:=(st.ws l (.inr rfl)).elim (λz=>z.elim) id;obtain⟨S,_⟩:=ok.newW (W':=λa=>a=l) st.noW (λa z=>by rw[z];exact Y) λa z=>⟨.l vs,by rw[z];exact D⟩;refine⟨_,env,t,S,e2,λas us H2 sm n U p=>?_⟩;have V:l∉as:=λz=>by rw[U l z] at D;cases D
     have h1:∀a∈l::as,H a=none:=λa z=>by
      rcases b6.mp z with rfl |z
      ·exact Y
      ·exact st.noW.free (U a z)
     have x:aL X.K H2 (Ow (i_ G W H) λa=>a∈l::as) r.1 vs:=m.mono (λa u z=>sm _ _ z) λa vs o z=>by
      refine⟨⟨o.1,λy=>?_⟩,z.keep λo y=>sm _ _ y⟩;rcases b6.mp y with y |y
      ·exact o.2 (.inr y)
      ·exact z.some (U a y)
     have Z:∀a,Ow (i_ G (λa=>W a\/a=l) H1) (λa=>a∈as) a->Ow (i_ G W H) (λa=>a∈l::as) a:=λa o=>by
      have A:a≠l:=λz=>by
       rcases o.1 with y |y
       ·exact y.2 (.inr z)
       ·rw[z,D] at y;cases y
      refine⟨o.1.imp (λy=>⟨y.1,λw=>y.2 (.inl w)⟩) λy=>st.noW.free y,λy=>?_⟩;rcases b6.mp y with y |y
      ·exact A y
      ·exact o.2 y
     exact k (l::as) (.ref l::us) H2 (st.noW.trans sm) (ci.mpr ⟨V,n⟩) h1 (.o bi (sm _ _ D) x (p.step (λa vs B z=>⟨bg _ B,z⟩) (λd v q=>(oh Z).1 d v q) λd v q=>(oh Z).2 d v q))⟩
def kJ(g:FP):FG:=λe=>(g e).bind λps=>if ps.length<=64 then ↑((.ls,ps),e) else none
theorem K6(h:mO X G H0 es g):pc X G H0 (.List es pos) (kJ g):=⟨(BO h.out).imp λσ H Q U=>by
 obtain⟨W,env,x,env',ok,q,k⟩:=U;unfold kJ at q;cases e1:g env with
 |none=>rw[e1] at q;cases q
 |some ps =>
   rw[e1,ac] at q;split at q;case isFalse=>cases q
   cases q;refine⟨W,env,ps,ok,e1,λas us H1 sm V Y S=>⟨?_,λp I=>?_⟩⟩
   ·rw[<-S.length,gz];lia
   ·have D:bC H1 (aX H1 p (.lst us)):=uz I
    have Z:p∉as:=λz=>by obtain⟨_,vs,y⟩:=S.own z;rw[I] at y;cases y
    have sl:dU X.K (i_ G W H) (λa=>a=p\/a∈as) (aX H1 p (.lst us)) (.ag .ls none ps) (.ref p):=by
     refine⟨p,as,us,rfl,.inl rfl,ci.mpr ⟨Z,V⟩,(λn z=>nomatch z),md,S.step (λa vs b z=>⟨.inr b,D _ _ z⟩) (λd v q=>q.mono (λa u z=>D _ _ z) ?_) λd v q=>q.mono (λa u z=>D _ _ z) ?_⟩ <;>
     exact λa vs o z=>⟨⟨o.1,λy=>y.elim (λy=>z.some (y ▸ I)) o.2⟩,z.keep λo y=>D _ _ y⟩
    have c:∀a,a=p\/a∈as->H a=none:=λa z=>by
     rcases z with rfl |z
     ·exact sm.free I
     ·exact Y a z
    have e:∀a,a=p\/a∈as->∃m:Mo,aX H1 p (.lst us) a=↑m.out:=λa z=>by
     rcases z with rfl |z
     ·exact⟨.l us,md⟩
     ·obtain⟨_,vs,y⟩:=S.own z
      exact⟨.l vs,D _ _ y⟩
    obtain⟨f,i,j,r⟩:=ok.newA (k':=.ls) (sm.trans D) c e (λa z=>z) (λus z=>z) sl;exact k _ p _ i f j r⟩
def tm(κ:AK)(i j:Nat):FE:=λe=>if jT κ e i then(cY e i).bind λx=>(match x.2[j]? with |some (.d d)=>↑(d,e) |_=>none) else none
def ww(c:oW X.K cn m)(an:bR Nn Cn X)(S:‹Nn[i]?=↑x›)(Y:‹fs[j]?=↑m›)(Z:fs.Nodup:=by decide +kernel)(f:‹attributeBase (.Name x p') m X.env (eval (.Name x p') X.env)=eval (.Name x p') X.env›):aS X G H0 (.Attribute (.Name x p') m pos) (tm (.ins false cn fs) i j):=let ⟨C,c,b,e⟩:=c;⟨(BL ((an.a S).pe) f).imp λσ H Q g=>by
  obtain⟨W,env,d,env',ok,q,k⟩:=g;unfold tm at q;split at q;case isFalse=>cases q
  rename_i h;cases D:cY env i with
  |none=>rw[D] at q;cases q
  |some y =>
    rw[D,ac] at q;split at q;case h_2=>cases q
    rename_i d' hd;cases q;rcases h with⟨l,ps',z⟩ | ⟨ps',z⟩
    ·have D:↑(AK.ins false cn fs,ps')=↑y:=by unfold cY at D;rw[z] at D;exact D
     cases D;obtain⟨v,D,p,as,us,rfl,_,_,_,⟨n,dx,U,I,o⟩,V⟩:=ok.slot i _ z;rw[Cl.inj U e] at I;obtain⟨u,h1,h2⟩:=V.getD hd;exact⟨_,D,p,C,dx,_,u,rfl,I,c,b,yT Z Y h1,k W u H Step.refl ok h2⟩
    ·have D:↑(AK.ins false cn fs,ps')=↑y:=by unfold cY at D;rw[z] at D;exact D
     cases D;obtain⟨v,D,p,us,rfl,_,⟨n,dx,U,I,o⟩,V⟩:=ok.slot i _ z;rw[Cl.inj U e] at I;obtain⟨u,h1,h2⟩:=V.getD hd;exact⟨_,D,p,C,dx,_,u,rfl,I,c,b,yT Z Y h1,k W u H Step.refl ok h2⟩⟩
variable{l:Addr}
def Ok.chgN(ok:Ok K G H0 W env σ H){s s':Sl}{v:V}(S:Mo)(e:env[i]?=↑↑s)(U:σ[i]?=↑↑v)(A:bO H s v a)(C:dU K G W (aX H a S.out) s' v)(B:∀(j:Nat) (s:Sl) (v:V),env[j]?=↑↑s->σ[j]?=↑↑v->¬bO H s v l)(t:∀b,bO (aX H a S.out) s' v b->bO H s v b\/b=l):Ok K G H0 W (env.set i ↑s') σ (aX H a S.out)/\Step W H W (aX H a S.out):=by
 have g:W a:=by obtain⟨E,m,h⟩:=ok.slot i s e;rw[U] at m;cases m;exact h.owns A
 have st:Step W H W (aX H a S.out):=⟨λb o q n=>by rw[i4 (λz:b=a=>n (by rw[z];exact g))];exact q,λb z=>.inl z⟩;have x:∀ {j:Nat} {sl:Sl} {u:V} {b:Addr},i≠j->env[j]?=↑↑sl->σ[j]?=↑↑u->bO H sl u b->b≠a:=λ{j sl u b} hj q Y o z=>by
  subst z;exact hj (ok.uniq i j s sl v u b e q U Y A o)
 have bk:∀ {j:Nat} {sl:Sl} {u:V} {b:Addr},i≠j->env[j]?=↑↑sl->σ[j]?=↑↑u->bO (aX H a S.out) sl u b->bO H sl u b:=λ{j sl u b} hj q Y o=>by
  obtain⟨F,c,h⟩:=ok.slot j sl q;rw[Y] at c;cases c;cases sl with
  |sh d=>exact o.elim |ow ds=>exact o |o2 dss=>exact h.back (λl D _ vs I=>by rw[i4 (x hj q Y (.inl D))];exact I) o |ag k p ps=>exact h.back (λl D _ vs I=>by rw[i4 (x hj q Y (.inl D))];exact I) o |al _ _=>exact o.elim |ro _ _=>exact o.elim
 refine⟨⟨λb o q=>?_,ok.good,λb z=>?_,λj sl q=>?_,λj k y s2 v1 v2 b Y c D I f o2=>?_,by rw[d6,ok.len]⟩,st⟩
 ·rw[i4 (λz=>by rw[z,(ok.wl a g).1] at q;cases q)];exact ok.stay b o q
 ·obtain⟨q,us,t⟩:=ok.wl b z
  by_cases h:b=a
  ·exact⟨q,S,by rw[h,md]⟩
  ·exact⟨q,us,by rw[i4 h];exact t⟩
 ·rcases qy q with⟨rfl,w,_⟩ | ⟨hj,w⟩
  ·cases w
   exact⟨v,U,C⟩
  ·obtain⟨u,m,h⟩:=ok.slot j sl w
   exact⟨u,m,ok.slstep st h λb vs o c=>⟨h.owns o,by rw[i4 (x hj w m o)];exact c⟩⟩
 ·rcases qy Y with⟨a1,b1,_⟩ | ⟨a1,b1⟩ <;> rcases qy c with⟨r,Z,_⟩ | ⟨r,Z⟩
  ·rw[<-a1,<-r]
  ·subst a1;cases b1
   rw[U] at D;cases D;have o2:=bk r Z I o2;rcases t b f with z |z
   ·exact ok.uniq i k s s2 v v2 b e Z U I z o2
   ·subst z;exact absurd o2 (B k s2 v2 Z I)
  ·subst r;cases Z
   rw[U] at I;cases I;have f:=bk a1 b1 D f;rcases t b o2 with z |z
   ·exact ok.uniq j i y s v1 v b b1 e D U f z
   ·subst z;exact absurd f (B j y v1 b1 D)
  ·exact ok.uniq j k y s2 v1 v2 b b1 Z D I (bk a1 b1 D f) (bk r Z I o2)
def aY.snoc(h:aY K G W H ps as us)(D:W l)(I:H l=↑(.lst vs))(r:aL K H (Ow G W) ds vs):aY K G W H (ps++[.o ds]) (as++[l]) (us++[.ref l]):=by
 induction h with
 |nil=>exact .o D I r .nil |d q _ ih=>exact .d q ih |o a b c _ ih=>exact .o a b c ih
def D_{f:Str}{v:V}:∀ {fs:h6} {us:kv},f∉fs->fs.length=us.length->dY f v (fs.zip us)=(fs++[f]).zip (us++[v])
 | [],[],_,_=>rfl |g::fs,u::us,hf,hl=>by
   have:g≠f:=λz=>hf (by simp[z]);rw[l8,m8,m8,l8];show(if g=f then(g,v)::fs.zip us else(g,u)::dY f v (fs.zip us))=_;rw[bw this,D_ (λz=>hf (by simp[z])) (by simpa using hl)]
def p6(i:Nat)(cn f:Str)(F:FA):FS:=λe=>(F e).bind λr=>match r.2[i]? with
 |some ↑(.ag (.ins true c fs) l ps)=>if c=cn/\f∉fs/\fs.length<900 then ↑(.nx,r.2.set i ↑(.ag (.ins true c (fs++[f])) l (ps++[.o r.1]))) else none
 |_=>none
variable{value:Expr}
theorem Ea(ca:oW X.K cn m)(an:bR Nn Cn X)(he:fW X G H0 value F)(f:‹Nn[i]?=↑x›)(hs:‹swapsWith value ↑(.Attribute (.Name x p') m p1) pos.line X.env=pure false›) :
  eR X G H0 (.Assign [.Attribute (.Name x p') m p1] value pos) (p6 i cn m F):=let ⟨C,c,hn,g⟩:=ca;⟨(Hm ((an.a f).pe) he.out hs).imp λDn σ H zq=>by
 obtain⟨W,env,fl,env',ok,q,k⟩:=zq;unfold p6 at q;cases e1:F env with
 |none=>rw[e1] at q;cases q
 |some r =>
   rw[e1,ac] at q;split at q;case h_2=>cases q
   rename_i L fs l ps t;split at q;case isFalse=>cases q
   rename_i u;obtain⟨rfl,hf,M⟩:=u;cases q;refine⟨W,env,r.1,r.2,ok,e1,λW1 ad vs H1 s1 U D N O rp=>?_⟩;obtain⟨v,A,p,as,us,rfl,P,Z,hr,⟨C',dx,z1,I,d⟩,S⟩:=D.slot i _ t;rw[Cl.inj z1 g] at I;have Q:p≠ad:=λz=>by rw[z,O] at I;cases I
   have na:ad∉as:=λz=>by
    obtain⟨v',e,h⟩:=U.slot i _ t;rw[A] at e;cases e;exact N (h.owns (.inr ⟨p,us,rfl,⟨d,C,dx,I⟩,S.parts_iff.mpr z⟩))
   refine⟨_,A,p,C,dx,fs.zip us,rfl,I,c,hn,?_,?_⟩
   ·rw[List.length_zip];lia
   ·have st:Step (cE W1 ad) H1 (cE W1 ad) (aX H1 p (.ins C dx ((fs++[m]).zip (us++[.ref ad])))):=⟨λb o q n=>by rw[i4 (λz:b=p=>n (by rw[z];exact P))];exact q,λb z=>.inl z⟩
    have B:aX H1 p (.ins C dx ((fs++[m]).zip (us++[.ref ad]))) ad=↑(.lst vs):=by rw[i4 (Ne.symm Q)];exact O
    have E:aY X.K G (cE W1 ad) (aX H1 p (.ins C dx ((fs++[m]).zip (us++[.ref ad])))) ps as us:=S.step (λb ws R z=>⟨(S.own R).1,by rw[i4 (λy:b=p=>by subst y;exact(ci.mp Z).1 R)];exact z⟩) (λ_ _ r=>D.rep st r) λ_ _ r=>D.reps st r;have Y:(fs++[m]).length=(us++[V.ref ad]).length:=by rw[ax,ax,d];rfl
    obtain⟨w1,w2⟩:=D.chgN (l:=ad) (s':=.ag (.ins true L (fs++[m])) l (ps++[.o r.1])) (.i C dx ((fs++[m]).zip (us++[.ref ad]))) t A (.inl rfl)
     ⟨p,as++[ad],us++[.ref ad],rfl,P,by
      rw[ci] at Z ⊢;refine⟨λz=>?_,sy.mpr ⟨Z.2,by simp,λy hy z u=>?_⟩⟩
      ·rcases dg.mp z with z |z
       ·exact Z.1 z
       ·exact Q (dc.mp z)
      ·rw[dc.mp u];exact λw=>na (w ▸ hy),hr,⟨C,dx,g,md,Y⟩,E.snoc (.inr rfl) B (D.reps st rp)⟩
     (λj s v e e4=>U.noOwn N j s v e e4) λb J=>by
       rcases J with J | ⟨p',us',z,y,j,ds,h1,h2⟩
       ·exact .inl (.inl J)
       ·cases z
        have ey:us'=us++[.ref ad]:=yu (K:=X.K) (k:=.ins true L (fs++[m])) (us:=us++[.ref ad]) ⟨C,dx,g,md,Y⟩ y;rw[ey] at h2;by_cases T:j<ps.length
        ·rw[ay T] at h1
         rw[ay (by rw[<-S.length];exact T)] at h2;exact .inl (.inr ⟨p,us,rfl,⟨d,C,dx,I⟩,j,ds,h1,h2⟩)
        ·rw[cy (by rw[<-S.length];lia),<-S.length] at h2
         cases hjj:j-ps.length with
         |zero=>rw[hjj] at h2;simp at h2;exact .inr h2.symm |succ n=>rw[hjj] at h2;simp at h2
    rw[D_ hf d];exact k _ σ _ (s1.trans w2) w1⟩
end L2
namespace L2
open PySem
abbrev jm:h6:=["kept", "states"]
end L2
namespace L2
open PySem PySem.Spec PyProof.Rows
def xk(i:Nat)(g:FE)(F:FA):FS:=λe=>(F e).bind λr=>match r.2[i]? with
 |some ↑(.o2 dss)=>(g (dE r.2)).bind λq=>(match q.1 with | .int k=>(eI dss.length k).map λj=>(.nx,r.2.set i ↑(.o2 (dss.set j r.1))) |_=>none)
 |_=>none
def s_(i:Nat)(g h f:FE):FS:=λe=>(f e).bind λr=>match r.2[i]? with
 |some ↑(.o2 dss)=>(g (dE r.2)).bind λq=>(h (dE r.2)).bind λp=>(match q.1,p.1 with
   | .int k,.int m=>(eI dss.length k).bind λj=>(dss[j]?).bind λds=>(eI ds.length m).map λn=>(.nx,r.2.set i ↑(.o2 (dss.set j (ds.set n r.1))))
   |_,_=>none)
 |_=>none
variable{G:Gd}{H0 H:Hp}{i:Nat}{K:kf}{W:Addr->Prop}{env:aP}{σ:St}
theorem Ok.swap2(U:Ok K G H0 W env σ H){l:Addr}{us:kv}{ds:k4}{dss:List k4}{j:Nat}{v:V}(ok:Ok K G H0 (cE W l) env σ H)(x:¬W l)(hl:H l=↑(.lst us))(r:aL K H (Ow G (cE W l)) ds us)(A:env[i]?=↑↑(.o2 dss))(B:σ[i]?=↑↑v)(hj:j<dss.length) :
  ∃(L:Addr) (ls:ia),v=.ref L/\H L=↑(.lst (ls.map V.ref))/\ls.length=dss.length/\Ok K G H0 (cE W l) (env.set i ↑(.o2 (dss.set j ds))) σ (aX H L (.lst ((ls.set j l).map V.ref)))/\Step (cE W l) H (cE W l) (aX H L (.lst ((ls.set j l).map V.ref))):=by
 obtain⟨v1,R,L,ls,rfl,T,C,E,hi⟩:=U.slot i _ A;rw[B] at R;cases R;have Y:cE W l L:=.inl T;have st:Step (cE W l) H (cE W l) (aX H L (.lst ((ls.set j l).map V.ref))):=⟨λb o q n=>by rw[i4 (λz:b=L=>n (by rw[z];exact Y))];exact q,λb z=>.inl z⟩;have nl:∀(k:Nat) (s:Sl) (u:V),env[k]?=↑↑s->σ[k]?=↑↑u->¬bO H s u l:=λk s u F p o=>by
  obtain⟨u',X,h⟩:=U.slot k s F;rw[p] at X;cases X;exact x (h.owns o)
 have Z:l≠L:=λz=>x (z ▸ T);have I:=hi.1;have S:∀(k:Nat) (c:Addr),(ls.set j l)[k]?=↑c->(j=k/\c=l)\/(j≠k/\ls[k]?=↑c):=λk c q=>by
  rcases qy q with⟨e,q,_⟩ |q
  ·exact .inl ⟨e,q⟩
  ·exact .inr q
 have J:(L::ls.set j l).Nodup:=by
  refine ci.mpr ⟨λz=>?_,?_⟩
  ·obtain⟨k,a⟩:=List.mem_iff_getElem?.mp z
   rcases S k L a with⟨_,e⟩ | ⟨_,e⟩
   ·exact Z e.symm
   ·exact(ci.mp E).1 (bh e)
  ·refine List.pairwise_iff_getElem.mpr λk1 k2 M d aa z=>?_
   obtain⟨c2,hc2⟩:∃c,(ls.set j l)[k2]?=↑c:=⟨_,bc d⟩;have N:(ls.set j l)[k1]?=↑c2:=by rw[<-hc2,bc M,bc d,z]
   have f:∀k c,ls[k]?=↑c->c≠l:=λk c q w=>x (w ▸ (hi.2 k (dss[k]'(by rw[<-I];exact(aj.mp q).1)) c (bc _) q).1);rcases S k1 c2 N with⟨a1,b1⟩ | ⟨a1,b1⟩ <;> rcases S k2 c2 hc2 with⟨a2,t⟩ | ⟨a2,t⟩
   ·lia
   ·exact f _ _ t b1
   ·exact f _ _ b1 t
   ·have:=wZ (ci.mp E).2 b1 t;lia
 refine⟨L,ls,rfl,C,I,?_⟩;refine ok.chgN (.l _) A B (.inl rfl) ⟨L,ls.set j l,rfl,Y,md,J,by simp[I],λk es c F p=>?_⟩ nl λb o=>?_
 ·rcases qy F with⟨rfl,z,_⟩ | ⟨a,q'⟩
  ·cases z
   rcases S j c p with⟨_,rfl⟩ | ⟨y,_⟩
   ·exact⟨.inr rfl,us,by rw[i4 Z];exact hl,ok.reps st r⟩
   ·exact absurd rfl y
  ·rcases S k c p with⟨y,_⟩ | ⟨_,y⟩
   ·exact absurd y a
   ·obtain⟨O,vs,hc,rc⟩:=hi.2 k es c q' y
    have ne:c≠L:=λz=>(ci.mp E).1 (z ▸ bh y);refine⟨.inl O,vs,by rw[i4 ne];exact hc,?_⟩;obtain⟨v2,e2,L2,ab,e3,_,g,_,P⟩:=ok.slot i _ A;rw[B] at e2;cases e2;cases e3;rw[C] at g;have:=zf (by simpa using g);subst this;obtain⟨_,vs',m,Q⟩:=P.2 k es c q' y;rw[hc] at m;cases m;exact ok.reps st Q
 ·rcases o with o | ⟨L',ls',z,q,hb⟩
  ·exact .inl (.inl o)
  ·cases z
   rw[md] at q;have:=zf (show(ls.set j l).map V.ref=ls'.map V.ref by simpa using q);subst this;obtain⟨k,a⟩:=List.mem_iff_getElem?.mp hb;rcases S k b a with⟨_,e⟩ | ⟨_,e⟩
   ·exact .inr e
   ·exact .inl (.inr ⟨L,ls,rfl,C,bh e⟩)
variable{Nn Cn:h6}{X:Cx}{b e:Expr}{g:FE}{F:FA}{x:Str}{pos p' p1:Pos}
def Eb(n:∀G H0,aS X G H0 b g)(o:fW X G H0 e F)(an:bR Nn Cn X)(c:‹Nn[i]?=↑x›)(p:‹swapsWithSole [.Subscript (.Name x p') b p1] e pos.line X.env=pure false›)(t:‹swappedStores [.Subscript (.Name x p') b p1] e X.env=pure none›)(h1:‹(assignEach [.Subscript (.Name x p') b p1] X.env).map (·.2)=[assign (.Subscript (.Name x p') b p1) X.env]›)(S:∀v,assign (.Subscript (.Name x p') b p1) X.env v=(do
   let ov <-holding [v] (eval (.Name x p') X.env);let iv <-holding [v,ov] (eval b X.env)
   standAt p1
   holding [v,ov,iv] (setItem ov iv v)
   release [v,ov,iv] []):=by intro _;rfl) :
  eR X G H0 (.Assign [.Subscript (.Name x p') b p1] e pos) (xk i g F):=⟨λpins s σ H Dn I u=>by
 obtain⟨W,env,fl,env',ok,q,k⟩:=u;unfold xk at q;cases e1:F env with
 |none=>rw[e1] at q;cases q
 |some r =>
   rw[e1,ac] at q;split at q;case h_2=>cases q
   rename_i dss f;cases e2:g (dE r.2) with
   |none=>rw[e2] at q;cases q
   |some r2 =>
     rw[e2,ac] at q;split at q;case h_2=>cases q
     rename_i kk d;cases e3:eI dss.length kk with
     |none=>rw[e3] at q;cases q
     |some j =>
       rw[e3] at q;cases q;have w:j<dss.length:=(wF e3).2.1;refine(nJ o.out (qY ((an.a c).pe) (fZ (X:=X) rfl n) mv S) p t h1) pins s σ H Dn I ⟨W,env,r.1,r.2,ok,e1,λW1 l us H1 y U D z A B=>?_⟩;obtain⟨v,h,_⟩:=U.slot i _ f;refine⟨_,h,i_ G (cE W1 l) H1,H1,dA,dE r.2,r2.1,r2.2,D.freezeS,e2,λJ v2 H2 s2 C V=>?_⟩;have sm:=s2.noW;rw[d] at V;obtain⟨L,ls,rfl,E,Y,m,Z⟩:=Ok.swap2 (U.same sm) (D.same sm) z (sm _ _ A) ((D.reps (Step.same sm) B)) f h w;exact⟨L,_,kk,j,rfl,V.int_,E,by rw[ai,Y];exact e3,by rw[jq] at m Z;exact k _ _ _ ((y.trans (Step.same sm)).trans Z) m⟩⟩
variable{a:Expr}{f h:FE}{p2:Pos}
def K7(F:∀G H0,aS X G H0 a g)(J:∀G H0,aS X G H0 b h)(K:aS X G H0 e f)(an:bR Nn Cn X)(l:‹Nn[i]?=↑x›)(m:zb a:=by intro _ _;rfl)(M:‹swapsWithSole [.Subscript (.Subscript (.Name x p') a p2) b p1] e pos.line X.env=pure false›)(N:‹swappedStores [.Subscript (.Subscript (.Name x p') a p2) b p1] e X.env=pure none›)(h1:‹(assignEach [.Subscript (.Subscript (.Name x p') a p2) b p1] X.env).map (·.2)=[assign (.Subscript (.Subscript (.Name x p') a p2) b p1) X.env]›)(Y:∀v,assign (.Subscript (.Subscript (.Name x p') a p2) b p1) X.env v=(do
   let ov <-holding [v] (eval (.Subscript (.Name x p') a p2) X.env);let iv <-holding [v,ov] (eval b X.env)
   standAt p1
   holding [v,ov,iv] (setItem ov iv v)
   release [v,ov,iv] []):=by intro _;rfl) :
  eR X G H0 (.Assign [.Subscript (.Subscript (.Name x p') a p2) b p1] e pos) (s_ i g h f):=⟨λpins s σ H Dn I O=>by
 obtain⟨W,env,fl,env',ok,q,k⟩:=O;unfold s_ at q;cases e1:f env with
 |none=>rw[e1] at q;cases q
 |some r =>
   rw[e1,ac] at q;split at q;case h_2=>cases q
   rename_i dss p;cases e2:g (dE r.2) with
   |none=>rw[e2] at q;cases q
   |some r2 =>
     rw[e2,ac] at q;cases e3:h (dE r.2) with
     |none=>rw[e3] at q;cases q
     |some r3 =>
       rw[e3,ac] at q;split at q;case h_2=>cases q
       rename_i kk mm t u;cases e4:eI dss.length kk with
       |none=>rw[e4] at q;cases q
       |some j =>
         rw[e4,ac] at q;cases e5:dss[j]? with
         |none=>rw[e5] at q;cases q
         |some ds =>
           rw[e5,ac] at q;cases e6:eI ds.length mm with
           |none=>rw[e6] at q;cases q
           |some n =>
             rw[e6] at q;cases q;refine(nJ K.out (qY (nT rC ((an.a l).pe) (fZ (X:=X) rfl F) m) (fZ (X:=X) rfl J) mv Y) M N h1) pins s σ H Dn I ⟨W,env,r.1,r.2,ok,e1,λW1 v1 H1 P S Q=>?_⟩;obtain⟨v,w,_⟩:=S.slot i _ p;refine⟨_,w,i_ G W1 H1,H1,dA,dE r.2,r2.1,r2.2,S.freezeS,e2,λW2 v2 H2 s2 R Z=>?_⟩;have sm:=s2.noW;rw[t] at Z;have U:=S.same sm;obtain⟨L,ls,c,vs,rfl,C,y,A,T,E⟩:=Jl U p w e4 e5;refine⟨L,_,kk,.ref c,rfl,Z.int_,.inl (.inl C),A,i_ G W1 H2,H2,dA,dE r.2,r3.1,r3.2,U.freezeS,e3,λW3 v3 H3 s3 aa d=>?_⟩;have D:=s3.noW;rw[u] at d;have B:=U.same D;have V:bC H1 H3:=λb o z=>D b o (sm b o z);obtain⟨t1,t2⟩:=B.turn2 p w (D _ _ C) e5 y (aL.set (S.rep (Step.same V) Q) n (U.reps (Step.same D) E));exact⟨c,vs,mm,n,rfl,d.int_,D _ _ T,by rw[<-E.length];exact e6,k _ _ _ ((P.trans (Step.same V)).trans t2) t1⟩⟩
end L2
namespace L2
open PySem PySem.Spec PyProof.Rows PySem.F
variable{prog:Program}{w:World}{A:Around}{E:Value->Shared->Prop}{s:Shared}
theorem Ec{it t:Addr}{D:kn}(Y:t≠it):∀(n i:Nat) (s:Shared) (Q:h7->Shared->Prop),s.heap.IsListIter it t i->s.heap.IsList t D->i+n<=D.size ->
  (∀h',h'.IsListIter it t (i+n)->Heap.SameBut it s.heap h'->Q ((D.toList.drop i).take n) { s with heap:=h' })->wpAny (model prog w) A (draw (.ref it) n) Q E s
 |0,i,s,Q,hit,_,_,hQ=>by
   exact cz (by simpa using hQ s.heap hit (Heap.SameBut.refl ..))
 |n+1,i,s,Q,hit,ht,hle,hQ=>by
   have Z:i<D.size:=by lia
   refine au (pv hit ht (x:=D[i]) (by simp[Z]) λh₁ S I=>?_);refine au (fx (Ec Y n (i+1) _ _ S (ht.extBut I.extBut Y) ∅ λa U V=>cz ?_));have hd:D.toList.drop i=D[i]::D.toList.drop (i+1):=by simp[il,Z]
   have:=hQ a (by rw[show i+(n+1)=i+1+n by lia];exact U) (I.trans V);rw[hd,List.take_succ_cons] at this;exact this
variable{pos:Pos}
theorem K8{env:Env}{I:j0}{x1}{t:Addr}{D:kn}{Q:Unit->Shared->Prop}(i:A.handled=none)(a:s.heap.IsList t D)(j:(assignEach I env).length=D.size)(V:(assignEach I env).findIdx? (·.1)=none)(h:∀h',Heap.ExtBut s.heap.objs.size s.heap h'->wpAny (model prog w) A (assignInOrder ((assignEach I env).map (·.2)) D.toList) Q E { s with heap:=h' }):wpAny (model prog w) A (assign (.Tuple I x1 pos) env (.ref t)) Q E s:=by
 refine au (nz ?_);unfold unpack;rw[j,V];refine au (fx ?_);have c:t≠s.heap.objs.size:=by obtain⟨o,k,_⟩:=a;exact bu (bj k)
 refine au ?_;refine au (wpAny_specialOf a.typeIs PySem.slot_list_iter.lookup ?_);refine cz ?_;refine au (fx (kr a ?_));refine au (fx (Ec c D.size 0 _ _ ⟨_,cx _ rfl,rfl,rfl⟩ (a.push _) ∅ λh₁ U S=>?_));have d:List.take D.size (List.drop 0 D.toList)=D.toList:=by
  rw[List.drop_zero];exact j8 ⋯
 rw[d];rw[bw ⋯];have Y:h₁.IsList t D:=(a.push _).extBut S.extBut c;refine au (fx (qm i U Y ⋯ λf Z=>?_));exact cz (h f λb o g e=>Z b o g (S.extBut b o g (aq _ e)))
def mP(r:Nat):ic->k7->Nat->aP->Option aP
 | [],[],_,e=>↑e |i::ix,.d d::ps,n,e=>mP r ix ps n (e.set i ⇑d)
 |i::ix,.o _::ps,n,e=>mP r ix ps (n+1) (e.set i ↑(.al r n))
 |_,_,_,_=>none
def yn(i:Nat)(ix:ic):FS:=λe=>match e[i]? with
 |some ↑(.ag .ls ↑r ps)=>if i∈ix then none else(mP r ix ps 0 e).map λe'=>(.nx,e')
 |_=>none
variable{G:Gd}{H0:Hp}{ix:ic}
theorem yV{K:kf}{W:Addr->Prop}{H:Hp}{r:Nat}{p:Addr}{D:ia}(S:G.r r=p::D):∀(ix:ic) (ps:k7) (n:Nat) (as:ia) (us:kv) (env env':aP) (σ:St) (Q:St->Hp->Prop),Ok K G H0 W env σ H->aY K G W H ps as us->(∀(m:Nat) (a:Addr),as[m]?=↑a->D[n+m]?=↑a) ->
  mP r ix ps n env=↑env'->(∀I,Ok K G H0 W env' I H->Q I H)->iN ix us σ H Q
 | [],[],_,_,_,_,_,σ,Q,ok,.nil,_,e,k=>by cases e;exact⟨rfl,k σ ok⟩
 |i::ix,.d d::ps,n,as,_,env,env',σ,Q,ok,.d (v:=v) (us:=us) q t,ha,e,k =>
   ⟨v,us,rfl,yV S ix ps n as us _ env' _ Q (ok.put (s:=.sh d) (v:=v) q λ_ _ _ _ _ _ o=>o.elim) t ha e k⟩
 |i::ix,.o ds::ps,n,_,_,env,env',σ,Q,ok,.o (a:=a) (as:=as) (us:=us) hW hl q t,ha,e,k =>
   ⟨.ref a,us,rfl,yV S ix ps (n+1) as us _ env' _ Q (ok.put (s:=.al r n) (v:=.ref a) ⟨p,D,a,S,by simpa using ha 0 a rfl,rfl⟩ λ_ _ _ _ _ _ o=>o.elim) t (λm b U=>by have:=ha (m+1) b (by simpa using U);rwa [show n+1+m=n+(m+1) by lia]) e k⟩
variable{X:Cx}{es:j0}{x:Str}{p' p1:Pos}{i:Nat}
def K9{Nn Cn:h6}{k:Nat}(h:jC X es (iN ix))(an:bR Nn Cn X)(U:‹Nn[i]?=↑x›)(j:‹X.calm=true›)(l:‹(assignEach es X.env).length=ix.length›)(V:‹(assignEach es X.env).findIdx? (·.1)=none›)(t:‹swapsWithSole [.Tuple es k p1] (.Name x p') pos.line X.env=pure false›)(S:‹swappedStores [.Tuple es k p1] (.Name x p') X.env=pure none›)(h1:‹(assignEach [.Tuple es k p1] X.env).map (·.2)=[assign (.Tuple es k p1) X.env]›):eR X G H0 (.Assign [.Tuple es k p1] (.Name x p') pos) (yn i ix):=⟨by
 have pg:PG X (.Tuple es k p1) (λv σ H Q=>∃a xs,v=.ref a/\H a=↑(.lst xs)/\xs.length=ix.length/\iN ix xs σ H Q):=by
  intro pins s σ H v u Q I r S;obtain⟨a,xs,D,Y,Z,S⟩:=S;subst D;cases r;obtain⟨its,f,w,F⟩:=I.list (.inl (.inl Y));refine K8 (I.ok.hd j) w.isList (by simp[l,<-Z,f.length]) V λh' y=>?_;have z:Inv X pins σ H { s with heap:=h' }:=I.kept (t':=s.toks) λb o e=>y b o (bu (bj e)) e;exact h pins _ σ H xs _ Q z (by simpa using f) S
 refine(nJ ((an.a U).pe) pg t S h1).imp λDn σ H A=>?_;obtain⟨W,env,fl,env',ok,q,kk⟩:=A;unfold yn at q;split at q;case h_2=>cases q
 rename_i r ps Y;split at q;case isTrue=>cases q
 cases D:mP r ix ps 0 env with
 |none=>rw[D] at q;cases q
 |some e' =>
   rw[D] at q;cases q;obtain⟨v,B,p,as,us,rfl,J,K,C,E,g⟩:=ok.slot i _ Y;have Z:∀(ix:ic) (ps:k7) (n:Nat) (env e':aP),mP r ix ps n env=↑e'->ix.length=ps.length:=λix=>by
    induction ix with
    |nil=>intro ps n env e' e;cases ps with |nil=>rfl |cons p _=>cases p <;> cases e
    |cons i ix ih =>
      intro ps n env e' e;cases ps with
      |nil=>cases e
      |cons p ps=>cases p <;> exact congrArg Nat.succ (ih ps _ _ _ e)
   exact⟨_,B,p,us,rfl,E,by rw[<-g.length];exact(Z _ _ _ _ _ D).symm,yV (C r rfl) ix ps 0 as us env _ σ _ ok g (λm a L=>by rwa [ni]) D λc d=>kk W c H Step.refl d⟩⟩
end L2
namespace L2
open PySem PySem.Spec PyProof.Rows
def fO:D->D->k6 | .int i,.int j=>if i=10/\0<=j/\j<=30 then ↑↥(i ^ j.toNat) else none |_,_=>none
variable{X:Cx}{G:Gd}{H0:Hp}
theorem KA:fX X G H0 (rI kW λi j=>.int (i ^ j.toNat)) fO:=j_ λI S d h=>by
 unfold fO at h;split at h
 ·rename_i i j
  split at h;case isFalse=>cases h
  rename_i D;cases h;obtain⟨rfl,U,h1⟩:=D;exact⟨10,j,rfl,rfl,by unfold kW;lia,rfl⟩
 ·cases h
variable{f:Addr}{g:FS}
def yo{a b:Expr}{f g:FE}{pos:Pos}(D:aS X G H0 a f)(I:aS X G H0 b g):aS X G H0 (.BinOp a .Pow b pos) (aD fO f g):=m1 GT KA D I
def iR(N:h6)(sc:Scope):h6:=N.filter λu=>sc.names.lookup u==some .cell
def iI(N ps:h6)(sc:Scope):Bool:=decide (sc.kind=.function) && !sc.isCoroutine && !sc.isGenerator && decide N.Nodup && decide (N.take ps.length=ps) && decide (∀y∈sc.names,y.2≠.free) && N.all λx=>iH x && (sc.names.lookup x==some .local || sc.names.lookup x==some .cell)
variable{N ps:h6}{sc:Scope}
def tj(h:iI N ps sc=true):ut N ps sc/\∀x∈N,Loc sc x/\(x==("__debug__" : Str))=false/\(x==("__classdict__" : Str))=false:=by
 unfold iI at h;simp only[d9,iw,mn,f9] at h;obtain⟨⟨⟨⟨⟨⟨h1,h2⟩,U⟩,V⟩,I⟩,Y⟩,Z⟩:=h;have S:∀x∈N,Loc sc x/\(x==("__debug__" : Str))=false/\(x==("__classdict__" : Str))=false:=λx D=>by
  obtain⟨a,b⟩:=Z x D;have a:=um a;rcases Bool.or_eq_true _ _ ▸ b with b |b
  ·exact⟨.inl (qv b),a⟩
  ·exact⟨.inr (qv b),a⟩
 exact⟨⟨h1,h2,U,V,I,λx D=>(S x (by rw[<-I] at D;exact o6 D)).1,Y⟩,S⟩
variable{P:Program}{w:World}{K:kf}{mg:Str->h8}{base:Heap}{CX:hY}{qual:Str}{cdv:Value}{A:Around}{outer:i0}{s:Shared}{H:Hp}{E:XK}
def vh(h:iI N ps sc=true):bR N (iR N sc) (cG CX P w K mg base N qual sc f cdv A outer s H E) :=
 ⟨rfl,λi x e=>let z:=(tj h).2 x (bh e);⟨e,z.1.elim .inl λq=>.inr (.inl q),z.2.1,z.2.2⟩,λu D=>by
  obtain⟨_,h2⟩:=ja.mp D;exact .inl (qv h2)⟩
def vg(h:iI N ps sc=true):eJ N (cG CX P w K mg base N qual sc f cdv A outer s H E) :=
 ⟨λi x e=>⟨(tj h).1.nd,e,((tj h).2 x (bh e)).1,.inl rfl⟩⟩
section
variable {X:Cx} {G:Gd} {H0:Hp} {i:Nat} {x:Str} {e:Expr} {pos p':Pos} {F:FA} {f2:kF}
def eJ.pg{N:h6}(t:eJ N X)(h:‹N[i]?=↑x›):PG X (.Name x pos) (n9 i):=vV (t.t h).nd (t.t h).n (t.t h).l (t.t h).f
def eJ.psF{N:h6}(t:eJ N X)(D:fW X G H0 e F)(h:‹N[i]?=↑x›)(I:‹swapsWith e ↑(.Name x p') pos.line X.env=pure false›):PS X (.Assign [.Name x p'] e pos) (fB (hC X.K G H0 F) (n9 i)):=qZ (t.t h).nd (t.t h).n (t.t h).l D.out I (t.t h).f
end
variable{P:h7->Prop}
def KB(h:P [])(us:h7)(e:us.length=0):P us:=ku e ▸ h
variable{n:Nat}
def pA(h:∀a,∀us:h7,us.length=n->P (a::us))(us:h7)(e:us.length=n+1):P us:=by
 cases us with
 |nil=>cases e
 |cons a us=>exact h a us (sj e)
def us1(h:∀a,P [a]):∀us,us.length=1->P us:=pA λa=>KB (h a)
def us2(h:∀a b,P [a,b]):∀us,us.length=2->P us:=pA λa=>us1 (P:=λus=>P (a::us)) (h a)
def us3(h:∀a b c,P [a,b,c]):∀us,us.length=3->P us:=pA λa=>us2 (P:=λus=>P (a::us)) (h a)
def us4(h:∀a b c d,P [a,b,c,d]):∀us,us.length=4->P us:=pA λa=>us3 (P:=λus=>P (a::us)) (h a)
def us5(h:∀a b c d e,P [a,b,c,d,e]):∀us,us.length=5->P us:=pA λa=>us4 (P:=λus=>P (a::us)) (h a)
def bT(K:kf)(mg:Str->h8)(st:Stmt)(x:Str)(ps:h6):Prop:=∃f fd,hB K x x st f fd/\Binds K fd ps []/\mg x=↑(.ref f)
def hI(K:kf)(C:Addr)(st:Stmt)(x qual:Str)(ps:h6):Prop:=∃f fd,hB K x qual st f fd/\Binds K fd ps []/\jE K C x f
variable{P:Program}{x:Str}{st:Stmt}{k ar:Nat}
theorem jv(T:bT K mg st x ps)(N:h6)(D:∀ {f:Addr} {cdv:Value} {A:Around} {outer:i0} {s:Shared} {H:Hp} {E:XK} {G:Gd} {H0:Hp},bA k (A.deeper (envOfC x (ip st) s.heap.objs.size f cdv)) ->
   bR N (iR N (ip st)) (cG bV P w K mg base N x (ip st) f cdv A outer s H E).nox->eJ N (cG bV P w K mg base N x (ip st) f cdv A outer s H E).nox->gA (cG bV P w K mg base N x (ip st) f cdv A outer s H E).nox G H0 (ny st) g)(h:iI N ps (ip st)=true:=by decide +kernel)(I:iH x=true:=by decide +kernel)(S:‹n=N.length›)(U:‹ar=ps.length›):bN P w K mg base bV x (k+1) (cM K (aR n ar g)):=by
 obtain⟨f,fd,F,b,m⟩:=T;exact⟨f,fd,ps,oG F (tj h).1 S U λcdv A outer s H E G H0 V=>D V (vh h).nox (vg h).nox,m,F.kp,b,(um I).1⟩
theorem yW(T:bT K mg st x ps)(N:h6)(D:∀ {f:Addr} {cdv:Value} {A:Around} {outer:i0} {s:Shared} {H:Hp} {E:XK} {G:Gd} {H0:Hp},bA k (A.deeper (envOfC x (ip st) s.heap.objs.size f cdv)) ->
   bR N (iR N (ip st)) (cG bV P w K mg base N x (ip st) f cdv A outer s H E).nox->eJ N (cG bV P w K mg base N x (ip st) f cdv A outer s H E).nox->gA (cG bV P w K mg base N x (ip st) f cdv A outer s H E).nox G H0 (ny st) g)(h:iI N ps (ip st)=true:=by decide +kernel)(I:iH x=true:=by decide +kernel)(S:‹n=N.length›)(U:‹ar=ps.length›):bN P w K mg base bV x (k+1) (kP K (gS n ar g)):=by
 obtain⟨f,fd,F,b,m⟩:=T;exact⟨f,fd,ps,xU F (tj h).1 S U λcdv A outer s H E G H0 V=>D V (vh h).nox (vg h).nox,m,F.kp,b,(um I).1⟩
abbrev Bd(P:Program)(w:World)(K:kf)(mg:Str->h8)(base:Heap)(N:h6)(qual:Str)(st:Stmt)(k:Nat)(g:FS):Prop:=∀ {f:Addr} {cdv:Value} {A:Around} {outer:i0} {s:Shared} {H:Hp} {E:XK} {G:Gd} {H0:Hp},bA k (A.deeper (envOfC qual (ip st) s.heap.objs.size f cdv)) ->
   bR N (iR N (ip st)) (cG (dG P w) P w K mg base N qual (ip st) f cdv A outer s H E)->eJ N (cG (dG P w) P w K mg base N qual (ip st) f cdv A outer s H E)->gA (cG (dG P w) P w K mg base N qual (ip st) f cdv A outer s H E) G H0 (ny st) g
theorem bT.cal{sp:Sp}(T:bT K mg st x ps)(D:iH x=true)(h:∀f fd,hB K x x st f fd->cJ P w K mg base CX k f fd ps sp):bN P w K mg base CX x k sp:=by
 obtain⟨f,fd,F,b,m⟩:=T;exact⟨f,fd,ps,h f fd F,m,F.kp,b,(um D).1⟩
variable{p:Nat}
def pj(T:bT K mg st x ps)(N:h6)(D:Bd P w K mg base N x st k g)(h:iI N ps (ip st)=true:=by decide +kernel)(I:iH x=true:=by decide +kernel)(S:‹n=N.length›)(U:‹p+ar=ps.length›):bN P w K mg base (dG P w) x (k+1) (eO K (bL n p ar g) (xQ n p ar g)) :=
 T.cal I λf fd F=>DJ F (tj h).1 S U λcdv A outer s H E G H0 V=>D V (vh h) (vg h)
def yX(T:bT K mg st x ps)(N:h6)(D:Bd P w K mg base N x st k g)(h:iI N ps (ip st)=true:=by decide +kernel)(I:iH x=true:=by decide +kernel)(S:‹n=N.length›)(U:‹p+ar=ps.length›):bN P w K mg base (dG P w) x (k+1) (gB K (dB n p ar g) (xL n p ar g)) :=
 T.cal I λf fd F=>yL F (tj h).1 S U λcdv A outer s H E G H0 V=>D V (vh h) (vg h)
def KC(T:bT K mg st x ps)(N:h6)(D:Bd P w K mg base N x st k g)(h:iI N ps (ip st)=true:=by decide +kernel)(I:iH x=true:=by decide +kernel)(S:‹n=N.length›)(U:‹ar=ps.length›):bN P w K mg base (dG P w) x (k+1) (sW K (iQ n ar g) (xG n ar g)) :=
 T.cal I λf fd F=>Kz F (tj h).1 S U λcdv A outer s H E G H0 V=>D V (vh h) (vg h)
variable{C:Addr}{cn:Str}
def zz(D:Cl K cn C)(c:iA K C)(T:hI K C st x qual ps)(N:h6)(I:Bd P w K mg base N qual st k g)(h:iI N ps (ip st)=true:=by decide +kernel)(S:‹n=N.length›)(U:‹p+ar=ps.length›):dP P w K mg base cn x (k+1) (eO K (bL n p ar g) (xQ n p ar g)):=by
 obtain⟨f,fd,F,b,m⟩:=T;exact⟨C,f,fd,ps,c,m,DJ F (tj h).1 S U λcdv A outer s H E G H0 V=>I V (vh h) (vg h),b,D⟩
def zy(D:Cl K cn C)(c:iA K C)(T:hI K C st x qual ps)(N:h6)(I:Bd P w K mg base N qual st k g)(h:iI N ps (ip st)=true:=by decide +kernel)(S:‹n=N.length›)(U:‹p+ar=ps.length›):dP P w K mg base cn x (k+1) (gB K (dB n p ar g) (xL n p ar g)):=by
 obtain⟨f,fd,F,b,m⟩:=T;exact⟨C,f,fd,ps,c,m,yL F (tj h).1 S U λcdv A outer s H E G H0 V=>I V (vh h) (vg h),b,D⟩
def KD(D:Cl K cn C)(I:mg cn=↑(.ref C))(S:PySem.W.makesIn K C=true)(kp:PySem.W.keepIn K (.ref C)=true)(T:hI K C st "__init__" qual ps)(N:h6)(U:Bd P w K mg base N qual st k g)(h:iI N ps (ip st)=true:=by decide +kernel)(V:iH cn=true:=by decide +kernel)(Y:‹n=N.length›)(Z:‹p+ar=ps.length›) :
  lG P w K mg base cn (k+1) (gB K (dB n p ar g) (xL n p ar g)):=by
 obtain⟨f,fd,F,b,m⟩:=T;exact⟨C,f,fd,ps,⟨S,m.at_,m.fn,kp⟩,yL F (tj h).1 Y Z λcdv A outer s H E G H0 a=>U a (vh h) (vg h),I,b,D,(um V).1⟩
def KF(N:h6)(D:∀ {f:Addr} {cdv:Value} {A:Around} {outer:i0} {s:Shared} {H:Hp} {E:XK} {G:Gd} {H0:Hp},bA k (A.deeper (envOfC x (ip st) s.heap.objs.size f cdv)) ->
   bR N (iR N (ip st)) (cG bV P w K mg base N x (ip st) f cdv A outer s H E).nox->eJ N (cG bV P w K mg base N x (ip st) f cdv A outer s H E).nox->gA (cG bV P w K mg base N x (ip st) f cdv A outer s H E).nox G H0 (ny st) g)(h:iI N ps (ip st)=true:=by decide +kernel)(I:‹n=N.length›)(S:‹ar=ps.length›):∀f fd,hB K x x st f fd->cJ P w K mg base bV (k+1) f fd ps (cM K (aR n ar g)) :=
 λf fd F=>oG F (tj h).1 I S λcdv A outer s H E G H0 U=>D U (vh h).nox (vg h).nox
variable{h:Heap}{oc:Value}{od an:Option Addr}{osl:Array h8}
def law_mk{fa:Addr}{s:Str}{m:k4->k6}{kV I U cdv ct:Value}(X:K.In h)(G:h.Ns mainGlobals mg)(S:mg x=↑(.ref fa))(a:PySem.W.nsIn K mainGlobals x=↑↑(.ref f))(l:K.lookup f=↑⟨oc,od,.func (PySem.W.fnOf x x (wv st) (ny st) (ip st) .none kV I U an cdv ct),osl⟩)(c:PySem.W.codeIn K cdv x=true)(k':PySem.W.keepIn K (.ref f)=true)(V:∀v:Value,bindArgs (PySem.W.fnOf x x (wv st) (ny st) (ip st) .none kV I U an cdv ct) ⟨[v],[]⟩=pure [(s,v)])(F:∀base f fd,hB K x x st f fd->cJ P w K mg base bV k f fd [s] (cM K m))(good:∀ns:ik,ns.length<=63->m [.lst (ns.map D.int)]=↑(.bl true)) :
  ∃fd:FuncData,(∀(t:Shared) (v:Value),BindsTo t fd ⟨[v],[]⟩ [(s,v)])/\∀base:Heap,K.In base->base.Ns mainGlobals mg->cJ P w K mg base bV k fa fd [s] (rZ K):=by
 have e:=S.symm.trans (mw X G a);cases e;exact⟨_,λt v=>.of_eq (V v),λbase _ _=>Jd (F base _ _ (wO l c k')) good⟩
def walkD{l:PySem.W.OpenLaw}{q:Program}{D:h6}{U:(Str->h8)->Heap->Prop}{S:World->Heap->Prop}{d:DefRec}{K:Params->kf}{s:Str}(V:bA k callerA)(Y:l.most=↑63)(I:d.params.defaults=[])(Z:∀(w:World) (h:Heap),S w h->(K w.params).In h)(F:∀(w:World) (mg:Str->h8) (fa:Addr) (h:Heap),(K w.params).In h->h.Ns mainGlobals mg->mg d.name=↑(.ref fa) ->
   ∃fd:FuncData,(∀(t:Shared) (u:Value),BindsTo t fd ⟨[u],[]⟩ [(s,u)])/\∀base:Heap,(K w.params).In base->base.Ns mainGlobals mg->cJ l.prog w (K w.params) mg base bV k fa fd [s] (rZ (K w.params))) :
  PySem.W.WalkO q D U S l.row.toRowW d [] (λf vs=>PySem.call f vs) :=
 Ib (n:=63) (k:=k) (x:=s) (CX:=λ_=>bV) (sp:=λw=>rZ (K w.params)) Y (by decide) I V Z F (λ_ _ a ns b _ c=>⟨a,ns,rfl,c,b,λ_=>rfl⟩) λ_ _ _ _ _ z=>z
def def_mk{kV D I cdv ct:Value}(X:K.In h)(G:h.Ns mainGlobals mg)(a:PySem.W.nsIn K mainGlobals x=↑↑(.ref f))(l:K.lookup f=↑⟨oc,od,.func (PySem.W.fnOf x x (wv st) (ny st) (ip st) .none kV D I an cdv ct),osl⟩)(c:PySem.W.codeIn K cdv x=true)(k:PySem.W.keepIn K (.ref f)=true)(S:∀us:h7,us.length=ps.length->bindArgs (PySem.W.fnOf x x (wv st) (ny st) (ip st) .none kV D I an cdv ct) ⟨us,[]⟩=pure (ps.zip us)):bT K mg st x ps :=
 ⟨f,_,wO l c k,.all S,mw X G a⟩
def exc_mk{c:Str}(X:K.In h)(G:h.Ns mainGlobals mg)(a:PySem.W.nsIn K mainGlobals c=↑↑(.ref C))(b:PySem.W.excIn K C yS "ValueError.__new__" = true)(d:iH c=true):iP K mg c:=⟨C,a,b,mw X G a,(um d).1⟩
def con_mk{z:Int}{t:Tok}(X:K.In h)(G:h.Ns mainGlobals mg)(a:PySem.W.nsIn K mainGlobals x=↑↑(.int z t)):∃t,mg x=↑(.int z t):=⟨t,mw X G a⟩
def mef_mk{kV D I cdv ct:Value}(a:PySem.W.findIn K (.ref C) x=↑↑(.ref f))(l:K.lookup f=↑⟨oc,od,.func (PySem.W.fnOf x qual (wv st) (ny st) (ip st) .none kV D I an cdv ct),osl⟩)(c:PySem.W.codeIn K cdv qual=true)(k:PySem.W.keepIn K (.ref f)=true)(i:PySem.W.isFn K (.ref f)=true)(S:∀us:h7,us.length=ps.length->bindArgs (PySem.W.fnOf x qual (wv st) (ny st) (ip st) .none kV D I an cdv ct) ⟨us,[]⟩=pure (ps.zip us)):hI K C st x qual ps :=
 ⟨f,_,wO l c k,.all S,a,i,k⟩
def lM(o:Obj)(C:Addr):Prop:=∃vs,o.cls=.ref C/\o.data=.fields vs/\vs[2]?=some .none
def KG:entryFor table "proto.unchain" = ↑Builtin.«proto.unchain»:=entryFor_of_fast (by kernel_rfl)
variable{E:Value->Shared->Prop}{oc:Obj}{prog:Program}
def KH{α:Type}{x c:Addr}{ox:Obj}{D:kn}{Q:α->Shared->Prop}(S:A.handled=↑(.ref c))(U:s.heap.get? c=↑oc)(V:lM oc C)(I:s.heap.get? x=↑ox)(hd:ox.data=.fields D)(h2:2<D.size)(Y:c≠x)(h:E (.ref x) { s with heap:=s.heap.update x (Obj.mapFields (·.setIfInBounds 2 (.ref c))) }):wpAny (model prog w) A (raiseNew (.ref x):Sem α) Q E s:=by
 refine au (wpAny_handled ?_);rw[S];dsimp only;rw[am (by simp[Y])];obtain⟨b,d,Z,a⟩:=V;refine au (fx (wpAny_runValue (qf KG ?_)));refine au (kj U Z a ?_);refine au (cz (cz ?_));refine au ?_;refine au (wpAny_load I ?_);rw[hd];dsimp only;rw[am h2];exact wpAny_update I (wpAny_throw h)
theorem KI{it:Addr}{x left step:Int}{c:Addr}{Q:h8->Shared->Prop}(U:A.handled=↑(.ref c))(S:s.heap.get? c=↑oc)(V:lM oc C)(D:IsRangeIter s.heap it x left step)(I:left<=0)(Y:∀h',Heap.ExtBut it s.heap h'->Q none { s with heap:=h' }):wpAny (model prog w) A (pyNext (.ref it)) Q E s:=by
 have hT:s.TypeIs (.ref it) "range_iterator":=⟨_,D,rfl⟩;refine au (wpAny_attempt (wpAny_callSpecial?_slot (name:=Str.ofString "__next__") hT F.slot_range_iterator_next
  (wpAny_call_entry F.slot_range_iterator_next hT F.entry_range_iterator_next ?_ (F.args_range_iterator_next_1 _))))
 show wpAny _ _ (field (.ref it) 0 >>= _) _ _ s;refine au (kj D rfl (x:=rawInt x) rfl ?_);show wpAny _ _ (field (.ref it) 1 >>= _) _ _ s;refine au (kj D rfl (x:=rawInt left) rfl ?_);refine au (kj D rfl (x:=rawInt step) rfl ?_);show wpAny _ _ (if left<=0 then _ else _) _ _ s;rw[am I];refine au (wpAny_rule ?_);refine au ?_;refine au ?_;refine au (m:=firstArgMember _ _) (wpAny_of_eq (a:=Value.none) (by first |rfl | (simp only[firstArgMember];rfl)) ?_);refine kt ?_ (by size_fits);refine KH (show A.in1.handled=↑(.ref c) from U) (aq _ (aq _ S)) V (cx _ rfl) rfl (by simp;lia) (bu (by rw[jb];exact gx (bj S))) ?_;refine au (wpAny_isInstance (T:="StopIteration") (b:=true) ⟨_,gv _ (cx _ rfl) (by rfl),rfl⟩ isSubtype_stop ?_);refine cz (Y _ λb o Z e=>?_);rw[df _ _ (λz=>absurd (z ▸ bj e) (by rw[jb];exact Nat.not_lt.mpr (o5 _)))];exact aq _ (aq _ e)
end L2
namespace L2
open PySem PySem.Spec PyProof.Rows PySem.W
structure hJ (K:kf) (C:Addr):Prop where
 ga:PySem.W.findIn K (.ref C) "__getattribute__" = ↑↑(.builtin "BaseException.__getattribute__")
 hk:PySem.W.findIn K (.ref C) "__getattr__" = ↑none
 fd:PySem.W.findObj K C none "__class__" = ↑(.bind (.builtin "getset_descriptor.__get__") (.builtin "object.__class__"))
 ob:PySem.W.mroIn K C (.type "object")=↑true
 be:PySem.W.mroIn K C (.type "BaseException")=↑true
variable{K:kf}{w:World}{A:Around}{E:Value->Shared->Prop}{s:Shared}{x:Str}{C:Addr}{Q:Unit->Shared->Prop}
theorem KJ{prog:Program}{x:Addr}{ox:Obj}{Q:h8->Shared->Prop}(c:hJ K C)(X:K.In s.heap)(I:PySem.W.InstAt s.heap x ox C none)(h:Q ↑(.ref C) { s with toks:=s.toks+1 }):wpAny (model prog w) A (getAttr? (.ref x) "__class__") Q E s:=by
 obtain⟨D,g,d,t,os⟩:=s;have S:=I.type (M:=model prog w);have U:=looks_findIn (M:=model prog w) X c.ga;have V:=looks_findIn (M:=model prog w) X c.hk;have Y:=looks_find (M:=model prog w) X I c.fd;have Z:=looks_mroIn (M:=model prog w) X c.be;refine au (wpAny_mkText (au (wpAny_attempt (fx (au (S.at (au (U.at ?_))))))));refine au (m:=hookBefore _) (V.at ?_);refine au (wpAny_attempt (fx ?_));refine au (cz (m6 ?_));refine l4 F.excAttr_ValueError.ga.plain F.entry_bexc_ga ?_;have a:Looks (model prog w) D (isInstance (.ref x) (.type "BaseException")) true:=S.andThen Z;refine au (a.at ?_);repeat (first |wp_step |assumption)
 refine wpAny_loadPart_at I.at_ ?_;rw[I.cls];refine cz (au (Y.at ?_));refine au (fx (m6 (class_get (s:=⟨D,g,d,t+1,os⟩) (ox:=ox) (od:=none) X I c.ob ?_)));exact cz (handed_on rfl (cz h))
def lN(o:Obj)(C:Addr):Prop:=lM o C/\o.dict=none
variable{h:Heap}{ea:Addr}{o:Obj}
def lN.inst(e:h.get? ea=↑o)(x:lN o C):PySem.W.InstAt h ea o C none:=by
 obtain⟨⟨vs,h1,h2,_⟩,D⟩:=x;exact⟨e,h1,by unfold notCls;rw[h2],by rw[D];trivial⟩
def KM(c:hJ K C):KitX K (.ref ea) (.ref C) (λh=>∃ox,PySem.W.InstAt h ea ox C none):=by
 obtain⟨cd,D,_⟩:=db.mp c.fd;unfold clsIn at D;split at D;case h_2=>cases D
 rename_i a d' V Y U;exact⟨λ_ _ _ ⟨_,I⟩=>I.type,λ_ _ X _ b d f s' k q=>by
   exact au (wpAny_loadPart (k _ _ (X _ _ U)) (cz q)),
  λh Z dd its n sl X S=>Bool.eq_false_iff.mpr λq=>by
   have e:C=Z:=Value.ref.inj (l6.mp q);subst e;have z:=(X _ _ U).symm.trans S
   (injection z with z;injection z with _ _ z;cases z),
  λX ⟨_,I⟩ k=>KJ c X I k⟩
structure Hd (ea C:Addr) (X:Cx):Prop where
 hh:X.A.handled=↑(.ref ea)
 ob:∃o,X.s₀.heap.get? ea=↑o/\lN o C
 h0:X.H₀ ea=none
 nf:ea∉X.fs
 nx:ea∉X.ex
variable{X:Cx}{pins:kl}{σ:St}{H:Hp}
def Hd.at(h:Hd ea C X)(I:Inv X pins σ H s):∃o,s.heap.get? ea=↑o/\lN o C/\H ea=none :=
 let ⟨o,e,c⟩:=h.ob;⟨o,I.base.keep ea o e h.h0 h.nf h.nx,c,I.base.free ea o e h.h0 h.nx⟩
def Hd.comp{N':h6}{sc:Scope}{cl:List (Str×Addr)}{D:Addr}{fp:ia}(h:Hd ea C X)(I:Inv X pins σ H s)(S:∀b∈fp,dX X pins H b):Hd ea C (kq X x N' sc cl D s H fp):=by
 obtain⟨V,U,_⟩:=h.ob;obtain⟨o,e,c,n⟩:=h.at I;have lt:=bj U;refine⟨h.hh,⟨o,e,c⟩,n,λz=>?_,λz=>?_⟩
 ·rcases b6.mp (I.stkSub ea z) with q |q
  ·exact absurd (bn lt (q ▸ I.ok.above)) (gm _)
  ·exact h.nf q
 ·rcases(S ea z).2.2.2.1 with q |q
  ·exact h.nx q
  ·exact absurd (bn lt q) (gm _)
variable{P:Program}{tg:Expr}
theorem KN(it:Addr)(lo:Int)(n:Nat):ym (Hd ea C) P w K tg (jV lo n) [it] it (λi h=>IsRangeIter h it (lo+(i:Nat)*1) ((n:Int)-(i:Nat)) 1) where
 mem:=by simp
 obj:=(nN (P:=P) (w:=w) (K:=K) (tg:=tg) it lo n).obj
 keep:=(nN (P:=P) (w:=w) (K:=K) (tg:=tg) it lo n).keep
 item:=by
  intro X hP l m Z i pins s σ H E I V st Y;obtain⟨a,d,f2,f,g,j⟩:=V it ⋯;have Y:i<n:=Y;refine wpAny_pyNext_range_item st ∅ λh' D k=>?_;have p:Inv X pins σ H { s with heap:=h',toks:=s.toks+1 }:=I.turned (λb o S e=>k.extBut b o S e) a d f g j;have q:lo+((i+1:Nat):Int)*1=lo+(i:Int)*1+1:=by lia
  have r:(n:Int)-((i+1:Nat):Int)=(n:Int)-(i:Int)-1:=by lia
  have U:IsRangeIter h' it (lo+((i+1:Nat):Int)*1) ((n:Int)-((i+1:Nat):Int)) 1:=by rw[q,r];exact D
  refine⟨_,rfl,rb (s:={ s with heap:=h',toks:=s.toks+1 }) (n:="range_iterator") U rfl rfl (by decide) ⟨.int (lo+i),H,p,⟨s.toks,?_⟩,⟨rfl,rfl⟩,U,λb S=>(V b S).1⟩⟩;rw[Int.mul_one]
 done:=by
  intro X hP l m Z i pins s σ H E I V st Y;obtain⟨a,d,f2,f,g,j⟩:=V it ⋯;obtain⟨o,e,⟨c,_⟩,_⟩:=Z.at I;exact KI Z.hh e c st (by have:n<=i:=Y;lia) λh' t=>⟨rfl,I.turned (t':=s.toks) (λb o S e=>t b o S e) a d f g j⟩
 self:=(nN (P:=P) (w:=w) (K:=K) (tg:=tg) it lo n).self
variable{a e:Expr}
def dF(ea:Addr)(i:Nat)(b:Bool):FE:=λe=>match e[i]? with |some ⇑(.exc a)=>if a=ea then ↑(.bl b,e) else none |_=>none
variable{b:Expr}
def KO(hd:Hd ea C X)(S:hJ X.K C):q9 X (.builtin "isinstance") (λxs H Q=>∃v u b,xs=[.ref ea,v]/\RelV v u/\(∀D,RelV v D->D=u)/\PySem.W.kitOne X.K (.ref C) u=↑b/\Q (.bl b) H):=by
 intro pins s σ H xs us Q I r h;obtain⟨v,u,b,rfl,_,U,e,q⟩:=h;obtain⟨V,D,rfl,Y,rt⟩:=rl r;cases (show V=Value.ref ea from Y);cases U D rt;obtain⟨o,Z,a,_⟩:=hd.at I;exact fj (KM S) I.kIn ⟨o,a.inst Z⟩ e (λz=>nomatch z) λtk=>⟨.bl b,H,I.tok tk,rfl,q⟩
variable{b:Bool}{Nn Cn:h6}{i:Nat}{cn:Str}{G:Gd}{H0:Hp}{pos p' p1 p2:Pos}
def Ed{v:V}{u:Value}(hd:Hd ea C X)(e:hJ X.K C)(f:PE X (.Name cn p2) (tC v))(h:RelV v u)(j:∀Y,RelV v Y->Y=u)(l:PySem.W.kitOne X.K (.ref C) u=↑b)(an:bR Nn Cn X)(Z:Bn X "isinstance":=by walk_at "b")(D:‹Nn[i]?=↑x›)(c:‹starEach [.Name x p1,.Name cn p2] X.env=(false,eval (.Name x p1) X.env)::starEach [.Name cn p2] X.env›)(I:‹starEach [.Name cn p2] X.env=(false,eval (.Name cn p2) X.env)::starEach [] X.env›)(S:‹(backTo pos (starEach [.Name cn p2] X.env)).any (·.1)=false›) :
  aS X G H0 (.Call (.Name "isinstance" p') [.Name x p1,.Name cn p2] [] pos) (dF ea i b) :=
 ⟨(mu (KO hd e) Z.g Z.m C7 (om ((an.a D).pe) (om f tw I) c) (by decide) (by decide) c S).imp λσ H Q n=>by
  obtain⟨W,env,d,env',ok,q,k⟩:=n;unfold dF at q;split at q
  ·rename_i s o
   split at q;case isFalse=>cases q
   rename_i U;subst U;cases q;obtain⟨t,p,r⟩:=ok.slot i _ o;obtain rfl:=bB.exc_ r;exact⟨_,p,v,u,b,rfl,h,j,l,k W _ H Step.refl ok (.bl b)⟩
  ·cases q⟩
variable{g:FE}
def KP{R:Addr}(hd:Hd ea C X)(V:hJ X.K C)(Y:X.mg cn=↑(.ref R))(Z:PySem.W.kitOne X.K (.ref C) (.ref R)=↑b)(an:bR Nn Cn X)(a:Gl X cn:=by walk_at "g")(D:(cn==("__debug__" : Str))=false:=by decide)(c:Bn X "isinstance":=by walk_at "b")(I:‹Nn[i]?=↑x›)(d:‹starEach [.Name x p1,.Name cn p2] X.env=(false,eval (.Name x p1) X.env)::starEach [.Name cn p2] X.env›)(S:‹starEach [.Name cn p2] X.env=(false,eval (.Name cn p2) X.env)::starEach [] X.env›)(U:‹(backTo pos (starEach [.Name cn p2] X.env)).any (·.1)=false›) :
  aS X G H0 (.Call (.Name "isinstance" p') [.Name x p1,.Name cn p2] [] pos) (dF ea i b):=Ed hd V (Bv (v:=.ref R) a Y rfl D) rfl (λ_ z=>z) Z an c I d S U
def KQ:bootBuiltins "ValueError" = ↑(.type "ValueError"):=by decide +kernel
def KR(hd:Hd ea C X)(V:hJ X.K C)(Y:PySem.W.kitOne X.K (.ref C) (.type "ValueError")=↑b)(an:bR Nn Cn X)(U:Bn X "ValueError":=by walk_at "b")(Z:Bn X "isinstance":=by walk_at "b")(D:‹Nn[i]?=↑x›)(a:‹starEach [.Name x p1,.Name "ValueError" p2] X.env=(false,eval (.Name x p1) X.env)::starEach [.Name "ValueError" p2] X.env›)(I:‹starEach [.Name "ValueError" p2] X.env=(false,eval (.Name "ValueError" p2) X.env)::starEach [] X.env›)(S:‹(backTo pos (starEach [.Name "ValueError" p2] X.env)).any (·.1)=false›) :
  aS X G H0 (.Call (.Name "isinstance" p') [.Name x p1,.Name "ValueError" p2] [] pos) (dF ea i b):=Ed hd V (Bw (v:=.ty "ValueError") U.g U.m KQ rfl) rfl (λ_ z=>z) Y an Z D a I S
def jL:k4->k6 | [.lst ds]=>↑(.tup ds) |_=>none
def KS:bootBuiltins "tuple" = ↑(.type "tuple"):=by decide +kernel
def KU:wf X G H0 (λxs H Q=>∃p ys,xs=[.ref p]/\((dH X.K H p ys/\∀l,H l=none->Q (.ref l) (aX H l (.tup ys)))\/(eG X.K H p ys/\Q (.ref p) H))) jL:=by
 intro W env σ H vs ds d Q ok r e k;unfold jL at e;split at e
 ·cases e
  obtain⟨v,rfl,D⟩:=ui r;obtain⟨a,us,rfl,h,r⟩:=D.lst_;refine⟨a,us,rfl,.inl ⟨h.sq,λl I=>?_⟩⟩;have sm:bC H (aX H l (.tup us)):=uz I;exact k _ _ (Step.same sm) (ok.same sm) (.tup md (ok.reps (Step.same sm) r))
 ·cases e
variable{b:Expr}{F:FA}
def KW(I:e_ X G H0 [e] F)(D:Bn X "tuple":=by walk_at "b")(S:‹starEach [e] X.env=(false,eval e X.env)::starEach [] X.env›):aS X G H0 (.Call (.Name "tuple" p') [e] [] pos) (d5 jL F):=xB HN KU D.g D.m KS I (by decide) (by decide) S rfl
abbrev Cx.hush(X:Cx)(A:Around)(p:kl):Cx:={ X with A:=A,calm:=false,pn:=p++X.pn }
variable{p:kl}
def Inv.hush(I:Inv X pins σ H s)(hA:A.frames=X.A.frames)(D:∀q∈p,s.heap.get? q.1=↑q.2/\H q.1=none/\q.1≠X.env.locals/\q.1∉X.fs/\∀v,q.2.data≠.cell v):Inv (X.hush A p) pins σ H s :=
 ⟨⟨I.ok.mod,I.ok.kind,I.ok.glob,I.ok.blt,I.ok.above,I.ok.inj,I.ok.has,I.ok.cab,(λz=>nomatch z),hA.trans I.ok.frames,I.ok.stk,I.ok.exf,I.ok.bs,I.ok.bsz,I.ok.noex,I.ok.exfs,I.ok.funs,I.ok.frf⟩,I.os,I.bare,I.base,I.loc,I.cell,I.free,I.freeC,λq hq=>by
  rw[ek] at hq;rcases dg.mp hq with hq |hq
  ·exact D q hq
  ·exact I.pin q hq,I.hok,I.len⟩
def Inv.unhush(ok:X.Ok)(J:Inv (X.hush A p) pins σ H s):Inv X pins σ H s :=
 ⟨ok,J.os,J.bare,J.base,J.loc,J.cell,J.free,J.freeC,λq D=>J.pin q (by rw[ek];exact cf _ D),J.hok,J.len⟩
structure Ee (P:Program) (w:World) (K:kf) (mg:Str->h8) (base:Heap) (k:Nat) (f:Addr) (fd:FuncData) (ps:h6) (kd:Str->k6):Prop where
 len:ps.length=1
 run:∀(A:Around) (outer:i0) (s:Shared) (H:Hp) (ea C:Addr) (c:Str) (o:Obj) (d:D) (O:Addr->Prop) (Q:VK) (args:Args),bA k { A with handled:=none }->A.handled=↑(.ref ea)->gO P w K mg base A outer s H->BindsTo s fd args (ps.zip [.ref ea]) ->
  s.heap.get? ea=↑o->lN o C->Cl K c C->H ea=none->ea∉fA outer->kd c=↑d->(∀v H',bC H H'->bB K H' (λa=>O a\/H a=none) d v->Q v H')->codeAny (model P w) A (.call (.ref f) args) (CR bV outer P w H s Q E0) s
abbrev kK(P:Program)(w:World)(K:kf)(mg:Str->h8)(base:Heap)(N:h6)(qual:Str)(scope:Scope)(f:Addr)(cdv:Value)(A:Around)(outer:i0)(s:Shared)(H:Hp):Cx :=
 ((cG bV P w K mg base N qual scope f cdv { A with handled:=none } outer s H E0).nox).hush (A.deeper (envOfC qual scope s.heap.objs.size f cdv)) []
def lO(n:Nat)(g:Addr->Str->FS)(c:Str)(d:D):Prop:=∀ea,∃e',g ea c (ki n [.exc ea])=↑(.rt d,e')
variable{g:Addr->Str->FS}{st:Stmt}{N ps:h6}{k:Nat}{kd:Str->k6}{mg:Str->h8}{base:Heap}
theorem yY{qual:Str}{f:Addr}{fd:FuncData}{n:Nat}(F:hB K x qual st f fd)(S:ut N ps (ip st))(R:n=N.length)(L:ps.length=1)(l:∀c d,kd c=↑d->lO n g c d)(Y:∀(cdv:Value) (A:Around) (outer:i0) (s:Shared) (H:Hp) (ea C:Addr) (c:Str) (G:Gd) (H0:Hp),(kd c).isSome=true->Cl K c C->Hd ea C (kK P w K mg base N qual (ip st) f cdv A outer s H)->gA (kK P w K mg base N qual (ip st) f cdv A outer s H) G H0 (ny st) (g ea c)) :
  Ee P w K mg base (k+1) f fd ps kd:=by
 subst R;refine⟨L,λA outer s H ea C c o d O Q args T X D hb ho hx hc hH m hd hQ=>?_⟩;obtain⟨oc,od,kV,aa,pm,an,cdv,ct,osl,rfl,lk,p⟩:=F.ex;have hl:[V.ref ea].length=ps.length:=L.symm;have M:K.In s.heap:=D.mod.kin.keeps λb o e=>(D.bs b o e).1;have r:s.heap.NoLimit:=D.mod.nolimit.keeps λb o e=>(D.bs b o e).1;have Z:∀y∈ps.zip [Value.ref ea],(ip st).names.lookup y.1=some .local\/((ip st).names.lookup y.1=some .cell/\((cellsFrom (s.heap.objs.size+1) (ip st).names []).lookup y.1).isSome=true):=λ⟨n,v⟩ hy=>by
  rcases S.par n (li hy).1 with q |q
  ·exact .inl q
  ·exact .inr ⟨q,nh _ _ _ (.inl q)⟩
 refine codeAny_call_function (A:=A) T.depth (M _ _ lk) rfl S.co S.gen rfl (PySem.W.codeRec_of M p) (hb _ _ _ _ ?_);refine wpAny_newFunctionEnv_cells S.kind Z λenv he t x=>?_;subst he;refine⟨r.keeps x.toInCall.keep,codeAny_func ?_⟩;have e1:gO P w K mg base { A with handled:=none } outer s H:=⟨D.frames,D.mod,D.bs,D.bsz,D.funs,D.frf,D.hok,D.bare⟩;have I0:Inv (cG bV P w K mg base N qual (ip st) f cdv { A with handled:=none } outer s H E0) [] (start N [.ref ea]) H t:=BV S rfl e1 hl (.cons rfl .nil) x;have I:Inv (kK P w K mg base N qual (ip st) f cdv A outer s H) [] (start N [.ref ea]) H t:=(I0.wish _).hush rfl λq hq=>absurd hq ⋯;have hD:Hd ea C (kK P w K mg base N qual (ip st) f cdv A outer s H):=⟨X,⟨o,ho,hx⟩,hH,m,by simp[cG]⟩;obtain⟨e',hg⟩:=l c d hd ea;have z:=(Y cdv A outer s H ea C c (gd λa=>O a\/H a=none) H (by rw[hd];rfl) hc hD).out [] t (start N [.ref ea]) H { nx:=λ_ H'=>Q .non H',rt:=Q } I
  ⟨dA,_,_,e',xz (K:=K) (O:=O) (.cons (.exc ea) .nil),hg,λW' U v H' st B rp=>hQ v H' B.stay (rp.mono (λ_ _ h=>h) λa us o h=>⟨o.1,h⟩)⟩
 refine ir z (λfl s' i=>?_) λe s' i=>False.elim i;have j:∀ {U:St} {H':Hp} {v:V} {u:Value},Inv (kK P w K mg base N qual (ip st) f cdv A outer s H) [] U H' s'->RelV v u->Q v H'->CE outer P w H s Q u s' :=
  λ{U H' v u} J E q=>⟨v,H',J.os,J.bare,J.base,J.hok,E,q⟩
 cases fl with
 |ret u =>
   obtain⟨v,U,H',J,E,q⟩:=i;exact j J E q
 |next =>
   obtain⟨U,H',J,q⟩:=i;exact j (v:=V.non) (u:=Value.none) J rfl q
 |brk =>
   obtain⟨_,_,_,q⟩:=i;exact False.elim q
 |cont =>
   obtain⟨_,_,_,q⟩:=i;exact False.elim q
def tp(P:Program)(w:World)(K:kf)(mg:Str->h8)(base:Heap)(x:Str)(k:Nat)(kd:Str->k6):Prop :=
 ∃f fd ps,Ee P w K mg base k f fd ps kd/\mg x=↑(.ref f)/\PySem.W.keepIn K (.ref f)=true/\Binds K fd ps []/\(x==("__debug__" : Str))=false
def yZ(ea:Addr)(c:Str)(kd:Str->k6)(i:Nat):FE:=λe=>match e[i]? with |some ⇑(.exc a)=>if a=ea then(kd c).map λd=>(d,e) else none |_=>none
variable{y:XF}{c:Str}
theorem KY{y:Str}{p:Pos}(l:X.A.handled=↑(.ref ea))(m:(ea,o)∈X.pn)(n:lN o C)(t:Cl X.K c C)(B:tp X.prog X.w X.K X.mg X.base x k kd)(E:bA k { X.A with handled:=none })(an:bR Nn Cn X)(J:Gl X x)(U:Nn[i]?=↑y)(g:starEach [.Name y p1] X.env=(false,eval (.Name y p1) X.env)::starEach [] X.env)(Y:(backTo pos (starEach [] X.env)).any (·.1)=false):aS X G H0 (.Call (.Name x p) [.Name y p1] [] pos) (yZ ea c kd i):=⟨λpins s σ H Q I Z=>by
 obtain⟨W,env,d,env',ok,q,k⟩:=Z;obtain⟨f,fd,ps,F,L,M,N,b⟩:=B;unfold yZ at q;split at q;case h_2=>cases q
 rename_i a O;split at q;case isFalse=>cases q
 rename_i P;subst P;cases e2:kd c with
 |none=>rw[e2] at q;cases q
 |some d' =>
   rw[e2] at q;cases q;obtain⟨v',R,T⟩:=ok.slot i _ O;obtain rfl:=bB.exc_ T;refine iu (zc I J L ?_ b);refine jy (h₀:=X.base) I.ok.mod.kin M (bK ((om (an.a U).pe tw g) pos pins s σ H (λvs H1=>vs=[V.ref a]/\H1=H) I ⟨_,R,rfl,rfl⟩) λus j Z=>?_) g Y;obtain⟨vs,H1,D,r,q1,q2⟩:=Z;refine⟨D.kIn,?_⟩;subst q1 q2;obtain⟨u,rfl,hu⟩:=xn r;cases (show u=Value.ref a from hu);obtain⟨g1,g2,g3,g4,_⟩:=D.pin (a,o) (em _ m);have hl:([Value.ref a]++[]).length=ps.length:=by rw[F.len];rfl
   have hz:=N j [Value.ref a] D.kIn hl;refine m6 (ji (F.run X.A X.stack j H1 a C c o _ (Ow G W) Q ⟨[.ref a],[]⟩ E l D.env0 hz g1 n t g2 (λz=>?_) e2 λv H2 sm r2=>?_) λr s' S=>?_)
   ·rcases b6.mp (D.stkSub a z) with z |z
    ·exact g3 z
    ·exact g4 z
   ·refine k W v H2 (Step.same sm) (ok.same sm) (r2.mono (λ_ _ h=>h) λa us o h=>⟨?_,h⟩)
    rcases o with o |o
    ·exact o
    ·exact⟨ok.good a (ok.stay.free o),λz=>by obtain⟨_,us,q⟩:=ok.wl a z;rw[o] at q;cases q⟩
   ·cases r with
    |error e=>exact False.elim S |ok fl =>
      cases fl with
      |ret u=>exact D.after S |next=>exact False.elim S |brk=>exact False.elim S |cont=>exact False.elim S⟩
variable{M:Model}
def KZ(I:Inv X pins σ H s)(t:X.N.Nodup)(hi:X.N[i]?=↑x)(u:X.env.kindOf x=some .local)(h:∀s',Inv X pins (σ.set i none) H s'->Q () s'):wpAny M A (do bindName X.env x .none;unbindBehindTheSuite X.env x pos) Q E s:=by
 obtain⟨m,w,B⟩:=id I.loc;have U:(X.env.scope.kind==.class || (X.env.scope.kind==.module && X.env.locals != X.env.globals))=false:=by rw[I.ok.kind];rfl
 have V:i<σ.length:=by rw[I.len];exact(aj.mp hi).1
 refine wpAny_nameGoes_keeps u w U λh' v a D=>?_;refine h _ ⟨I.ok,I.os,I.bare,⟨λb o e n f Y=>?_,λb o e n f Y=>?_,I.base.free,λb o e Y=>?_,I.base.tups,I.base.frzs,I.base.tbls⟩,⟨_,a,λj y C S Z F=>?_⟩,λy c e=>?_,I.free,I.freeC,λp G=>?_,λb J e=>?_,by simpa using I.len⟩
 ·exact(D.2 b (bu (bn (bj e) I.ok.above))).trans (I.base.keep b o e n f Y)
 ·obtain⟨sl,S⟩:=I.base.slot b o e n f Y
  exact⟨sl,(D.2 b (bu (bn (bj e) I.ok.above))).trans S⟩
 ·obtain⟨o',S⟩:=I.base.there b o e Y
  exact⟨o',(D.2 b (bu (bn (bj e) I.ok.above))).trans S⟩
 ·by_cases g:j=i
  ·subst g
   rw[fb V] at Z;cases Z
  ·rw[dy (Ne.symm g)] at Z
   obtain⟨K,L,q⟩:=B j y C S Z F;refine⟨K,L,?_⟩;rcases q with⟨k,e⟩ | ⟨k,c,e,z⟩
   ·refine .inl ⟨k,?_⟩
    have:y≠x:=λe=>g (vM t S (e ▸ hi));simp[this,e]
   ·exact .inr ⟨k,c,e,z.sameBut D (I.cne y c e)⟩
 ·obtain⟨l,z⟩:=I.cell y c e
  exact⟨l,z.sameBut D (I.cne y c e)⟩
 ·obtain⟨e,n,r,O,d⟩:=I.pin p G
  exact⟨(D.2 p.1 r).trans e,n,r,O,d⟩
 ·refine(I.hok b J e).stay (λc l hc q=>(D.2 c ?_).trans q) (λ_ q=>q) λ_ _ q=>q
  rintro rfl;rcases hc with hc |hc
  ·rw[<-hc,I.free] at e;cases e
  ·rw[I.free] at hc;cases hc
def bQ.here{a:Addr}{o:HO}(x:bQ P w H h a o):∃u,h.get? a=↑u:=by
 induction o with
 |lst xs=>obtain⟨_,_,_,_,e⟩:=x;exact⟨_,e⟩ |tup xs=>obtain⟨_,_,_,o,e,_⟩:=x;exact⟨_,e⟩ |dK kvs=>obtain⟨_,_,_,_,o,_,_,e,_⟩:=x;exact⟨_,e⟩ |dT kvs=>obtain⟨_,_,_,_,o,_,_,e,_⟩:=x;exact⟨_,e⟩ |set S n=>obtain⟨o,_,_,_,e,_⟩:=x;exact⟨_,e⟩ |ins C dx fs=>exact⟨_,x.2.2.2.1⟩ |own _=>exact x |xd fs=>obtain⟨_,⟨_,_,_,e,_⟩,_⟩:=x;exact⟨_,e⟩ |met f y=>exact⟨_,x⟩ |rng lo hi=>obtain⟨_,_,_,e⟩:=x;exact⟨_,e⟩ |frz o u _=>exact⟨_,x.1⟩ |tbl ps=>exact⟨_,x⟩ |ext φ=>exact x.2.1
variable{W:Addr->Prop}{env:aP}
def Ok.unset(ok:Ok K G H0 W env σ H)(i:Nat):Ok K G H0 W (env.set i none) (σ.set i none) H:=by
 have gt:∀ {α:Type} {l:List (Option α)} {j:Nat} {a:α},(l.set i none)[j]?=↑↑a->i≠j/\l[j]?=↑↑a:=λ{α l j a} e=>by
  by_cases h:i=j
  ·subst h
   rw[jg] at e;simp at e
  ·rw[dy h] at e
   exact⟨h,e⟩
 refine⟨ok.stay,ok.good,ok.wl,λj s e=>?_,λj I s s' v S a D U V Y=>ok.uniq j I s s' v S a (gt D).2 (gt U).2 (gt V).2 (gt Y).2,by rw[d6,d6];exact ok.len⟩;obtain⟨h,e⟩:=gt e;obtain⟨v,D,h1⟩:=ok.slot j s e;exact⟨v,by rw[dy h];exact D,h1⟩
abbrev Cx.tr(X:Cx)(E:Value->Shared->Prop)(pp:kl):Cx:={ X with xe:=E,pn:=pp++X.pn }
def Inv.tr(I:Inv X pins σ H s):Inv (X.tr E pins) [] σ H s :=
 ⟨⟨I.ok.mod,I.ok.kind,I.ok.glob,I.ok.blt,I.ok.above,I.ok.inj,I.ok.has,I.ok.cab,I.ok.hd,I.ok.frames,I.ok.stk,I.ok.exf,I.ok.bs,I.ok.bsz,I.ok.noex,I.ok.exfs,I.ok.funs,I.ok.frf⟩,I.os,I.bare,I.base,I.loc,I.cell,I.free,I.freeC,λq D=>I.pin q (by
  rw[du] at D;exact dg.mpr (dg.mp D).symm),I.hok,I.len⟩
variable{pp:kl}
def Inv.untr(ok:X.Ok)(I:Inv (X.tr E pins) pp σ H s):Inv X pins σ H s :=
 ⟨ok,I.os,I.bare,I.base,I.loc,I.cell,I.free,I.freeC,λq D=>I.pin q (em _ (dg.mpr (dg.mp D).symm)),I.hok,I.len⟩
variable{cs:h6}
def bR.tr(h:bR N cs X):bR N cs (X.tr E pp):=⟨h.n,λi x e=>let z:=h.get i x e;⟨z.n,z.v,z.d,z.c⟩,h.ck⟩
def eJ.tr(h:eJ N X):eJ N (X.tr E pp):=⟨λi x e=>let z:=h.to i x e;⟨z.nd,z.n,z.l,z.f⟩⟩
def bR.hush(h:bR N cs X):bR N cs (X.hush A pp):=⟨h.n,λi x e=>let z:=h.get i x e;⟨z.n,z.v,z.d,z.c⟩,h.ck⟩
def eJ.hush(h:eJ N X):eJ N (X.hush A pp):=⟨λi x e=>let z:=h.to i x e;⟨z.nd,z.n,z.l,z.f⟩⟩
def iC(u:FS)(i j:Nat)(kd:Str->k6):FS:=λe=>(u e).bind λr=>match r.1 with | .xc c=>(kd c).map λd=>(.nx,((r.2.set i none).set j ⇑d).set i none) |_=>↑r
def y_{α:Type}(l:List (Option α))(i j:Nat)(a b:Option α):((l.set i a).set j b).set i none=((l.set i none).set j b).set i none:=by
 by_cases h:i=j
 ·subst h;simp[List.set_set]
 ·rw[List.set_comm _ _ h,List.set_set,List.set_comm _ _ h,List.set_set]
variable{H':Hp}{s':Shared}
def iM.obj{e:Addr}(U:X.stack=X.env::X.outer)(V:X.env.frame=↑X.env.locals)(f:iM X.prog X.w X.stack H s C e H' s'):∃o,s'.heap.get? e=↑o/\lN o C/\H' e=none/\e≠X.env.locals/\e∉X.fs/\∀v,o.data≠.cell v:=by
 obtain⟨B,x,c,Y,un,os,d⟩:=f;obtain⟨Z,vs,T,g,ts,S,a,gd,I,h,b,_⟩:=x.tr;have D:e∉fA X.stack:=λz=>by
  obtain⟨_,i,y,n⟩:=x.fr.mem z;rw[S] at y;cases y;exact n vs I
 rw[U] at D;have D:e∉X.env.locals::X.fs:=by unfold fA at D;rw[lq,V] at D;exact D
 refine⟨Z,S,⟨⟨vs,a,I,b⟩,gd⟩,?_,λz=>D (z ▸ bi),λz=>D (bg _ z),λv z=>by rw[I] at z;cases z⟩;cases q:H' e with
 |none=>rfl |some o =>
   obtain⟨u,z⟩:=(Y e o q).here;rw[x.new] at z;cases z
def iM.flight{e:Addr}(I:Inv X pins σ H s)(f:iM X.prog X.w X.stack H s C e H' s')(h:∀h2,iM X.prog X.w X.stack H s C e H' { s' with heap:=h2 }->Q () { s' with heap:=h2 }):wpAny M A (setFlight (.ref e) none) Q E s':=by
 obtain⟨B,x,V,Y,un,os,Z⟩:=f;refine xM x λh2 x2 a c=>h h2 ⟨B,x2,V,Y,⟨λb o q n D _=>x2.stay b o (V b o q n D),λb o q n D S=>?_,un.free,λb o q S=>?_,un.tups,un.frzs,un.tbls⟩,os,Z⟩
 ·obtain⟨sl,z⟩:=un.slot b o q n D S
  obtain⟨_,i,y,d⟩:=I.stack.mem D;rw[q] at y;cases y;obtain⟨U,g⟩:=a b _ z d;exact⟨U,g⟩
 ·obtain⟨o',z⟩:=un.there b o q S
  exact c b o' z
variable{body:List Stmt}{jr:Nat}
theorem Ef{u:FS}{j:Nat}{R y z:Str}{RA:Addr}{Q g N T p7:Pos}(hR:X.mg R=↑(.ref RA))(h:∀c C,(kd c).isSome=true->Cl X.K c C->PySem.W.exmOne X.K (.ref C) (.ref RA)=↑true)(kc:tp X.prog X.w X.K X.mg X.base x k kd)(rm:bA jr X.A)(an:bR Nn Cn X)(S:eJ Nn X)(hb:∀E pp,bR Nn Cn (X.tr E pp)->eJ Nn (X.tr E pp)->gA (X.tr E pp) G H0 body u)(m:k<=jr:=by decide)(aa:Gl X R:=by walk_at "g")(ab:Gl X x:=by walk_at "g")(hi:‹Nn[i]?=↑y›)(hj:‹Nn[j]?=↑z›)(hl:X.env.kindOf y=some .local:=by kernel_rfl)(hX:‹X.stack=X.env::X.outer›)(hf:‹X.env.frame=↑X.env.locals›)(ag:(R==("__debug__" : Str))=false:=by decide)(he:‹starEach [.Name y g] X.env=(false,eval (.Name y g) X.env)::starEach [] X.env›)(al:‹(backTo N (starEach [] X.env)).any (·.1)=false›)(ap:‹swapsWith (.Call (.Name x Q) [.Name y g] [] N) ↑(.Name z p2) T.line X.env=pure false›) :
  eR X G H0 (.Try body [.ExceptHandler ↑(.Name R p1) ↑y [.Assign [.Name z p2] (.Call (.Name x Q) [.Name y g] [] N) T] p7] [] [] pos) (iC u i j kd):=⟨λpins s σ H Dn I zq=>by
 obtain⟨W,env,fl,env',ok,q,k⟩:=zq;unfold iC at q;cases e1:u env with
 |none=>rw[e1] at q;cases q
 |some r =>
   obtain⟨B,env1⟩:=r;rw[e1,ac] at q;refine wpAny_Try_except ?_;refine ir ((hb _ pins an.tr S.tr).out [] s σ H Dn I.tr ⟨W,env,B,env1,ok,e1,?_⟩) (λf s1 h1=>?_) (λe s1 h1=>h1)
   ·cases B with
    |xc c=>?_ |nx=>cases q;exact k
    |bk=>cases q;exact k
    |ct=>cases q;exact k
    |rt d=>cases q;exact k
    |rf d=>cases q;exact k
    |r2 d=>cases q;exact k
    |ra d d'=>cases q;exact k
    cases e2:kd c with
    |none=>simp only[e2,nk] at q;cases q
    |some d =>
      simp only[e2,ah] at q;cases q;intro W' D H' C hc st F ar e s' xs;refine xs.come hX hf λh2 s1 H1 I1 f=>?_;have J:Inv X pins D H' { s' with heap:=h2 }:=(f.inv I1).untr I.ok;obtain⟨o,O,g2,_⟩:=iM.obj (X:=X) hX hf f;refine wpAny_handleBy_cons (codeAny_handlers_test ?_) (λz=>nomatch z);refine zc (J.hush (A:=X.A.mark ↑(.ref e)) (p:=[]) rfl ⋯) aa hR ?_ ag;refine(exm_one (M:=model X.prog X.w) J.kIn (g2.inst O).type (h c C (by rw[e2];rfl) hc)).here ?_;refine codeAny_handlers_suite_as ?_;refine f.flight I1 λh3 f3=>?_;have J3:Inv X pins D H' { s' with heap:=h3 }:=(f3.inv I1).untr I.ok;obtain⟨L,O,g2,g3,g4,g5,g6⟩:=iM.obj (X:=X) hX hf f3;have a0:i<env1.length:=by
       rw[F.len,J3.len];exact(aj.mp (S.t hi).n).1
      refine vN (X:=X.hush (X.A.mark ↑(.ref e)) []) (J3.hush rfl ⋯) (S.t hi).nd (S.t hi).n (S.t hi).l (v:=.ref e) rfl (λs4 I4 zq=>?_) (S.t hi).f;obtain⟨a,sb,ha⟩:=zq;have ge:s4.heap.get? e=↑L:=(sb.2 e λz=>by
       rcases ha with ha |ha
       ·exact g4 (z.trans ha)
       ·obtain⟨v,oc,h1,h2⟩:=J3.cell _ _ ha
        rw[<-z] at h1;cases O.symm.trans h1;exact g6 v h2).trans O
      have I5:Inv ((X.hush (X.A.mark ↑(.ref e)) [(e,L)]).nox) pins (D.set i ↑(.ref e)) H' s4:=((I4.unhush I.ok).hush (A:=X.A.mark ↑(.ref e)) (p:=[(e,L)]) rfl (λq hq=>by cases dc.mp hq;exact⟨ge,g3,g4,g5,g6⟩)).wish _;have hs:=(dz (f6 (X:=(X.hush (X.A.mark ↑(.ref e)) [(e,L)]).nox) (G:=G) (H0:=H0) (pos:=T) (p':=p2) S.hush.nox (KY (C:=C) (c:=c) (o:=L) (p:=Q) (p1:=g) (pos:=N) rfl (em _ bi) g2 hc kc ⟨rfl,(rm.mono m).dp,(rm.mono m).un⟩ an.hush.nox ab hi he al) hj ap)).out pins s4 _ H' { nx:=λU P=>∃Z,Step W' H' Z P/\Ok X.K G H0 Z ((env1.set i ⇑(.exc e)).set j ⇑d) U P,rt:=λ_ _=>False } I5 ⟨W',env1.set i ⇑(.exc e),.nx,_,F.set (.exc e),by
       unfold aH yZ;rw[fb a0];dsimp only;rw[am rfl,e2];rfl,λZ U P V Y=>⟨Z,V,Y⟩⟩
      refine ir hs (λf5 s5 b=>?_) (λx s5 b=>False.elim b);cases f5 with
      |next =>
        obtain⟨U,P,J5,Z,V,Y⟩:=b;refine KZ (J5.unwish.unhush I.ok) (S.t hi).nd (S.t hi).n hl λs6 J7=>⟨_,_,J7,k Z _ _ (st.trans V) ?_⟩;rw[<-y_];exact Y.unset i
      |brk=>obtain⟨_,_,_,z⟩:=b;exact z.elim |cont=>obtain⟨_,_,_,z⟩:=b;exact z.elim |ret u=>obtain⟨_,_,_,_,_,z⟩:=b;exact z.elim
   ·cases f with
    |next =>
      obtain⟨D,H',J,q⟩:=h1;exact mh ⟨D,H',J.untr I.ok,q⟩
    |brk=>obtain⟨D,H',J,q⟩:=h1;exact⟨D,H',J.untr I.ok,q⟩ |cont=>obtain⟨D,H',J,q⟩:=h1;exact⟨D,H',J.untr I.ok,q⟩ |ret u=>obtain⟨v,D,H',J,r,q⟩:=h1;exact⟨v,D,H',J.untr I.ok,r,q⟩⟩
def nc:h6:=["UnknownStack", "EmptyStack", "UnknownPlace", "BadHours", "BadLoss", "BadCount", "HouseFull", "DeedsFull", "NothingWaits", "NothingDone", "ShortOrder", "TooManyOrders", "NotGone"]
def t4:h6:=["unknown stack", "empty stack", "unknown place", "bad hours", "bad loss", "bad count", "house full", "deeds full", "nothing waits", "nothing done", "short order", "too many orders", "not gone"]
def wj(c:Str):ka:=(nc.zip t4).lookup c
def iE(c:Str):k6:=(wj c).map λw=>.tup [.str "refused",.str w]
def zv(K:kf)(C:Addr):Bool:=findIn K (.ref C) "__getattribute__"==↑↑(.builtin "BaseException.__getattribute__") && findIn K (.ref C) "__getattr__"==↑none && (match findObj K C none "__class__" with |some (.bind (.builtin g) (.builtin a))=>g=="getset_descriptor.__get__" && a=="object.__class__" |_=>false) && mroIn K C (.type "object")==↑true && mroIn K C (.type "BaseException")==↑true
def jM(K:kf)(n:Str)(p:Addr->Bool):Bool:=match nsIn K mainGlobals n with |some ↑(.ref R)=>p R |_=>false
def Eg(K:kf):Bool:=nc.all λc=>jM K c λC=>zv K C && kitOne K (.ref C) (.type "ValueError")==↑true && jM K "RotError" (λR=>exmOne K (.ref C) (.ref R)==↑true) && nc.all λn=>jM K n λR=>kitOne K (.ref C) (.ref R)==↑(c==n)
def tE{n:Str}{p:Addr->Bool}(h:jM K n p=true):∃R,nsIn K mainGlobals n=↑↑(.ref R)/\p R=true:=by
 unfold jM at h;split at h
 ·exact⟨_,by assumption,h⟩
 ·cases h
def K_(h:zv K C=true):hJ K C:=by
 unfold zv at h;simp only[d9,l6] at h;obtain⟨⟨⟨⟨h1,h2⟩,D⟩,I⟩,S⟩:=h;refine⟨h1,h2,?_,I,S⟩;split at D
 ·rename_i g a e
  rw[d9,l6,l6] at D;rw[e,D.1,D.2]
 ·cases D
def Eh(h:(iE c).isSome=true):c∈nc:=by
 unfold iE at h;rw[Option.isSome_map] at h;obtain⟨w,e⟩:=my.mp h;exact(li (fm e)).1
structure eM (K:kf) (mg:Str->h8):Prop where
 b:Eg K=true
 m:∀n∈("RotError" : Str)::nc,∀R,nsIn K mainGlobals n=↑↑(.ref R)->mg n=↑(.ref R)
def kf_mk(X:K.In h)(G:h.Ns mainGlobals mg)(b:Eg K=true):eM K mg:=⟨b,λ_ _ _ e=>mg_of X G e⟩
def eM.all(k:eM K mg)(U:(iE c).isSome=true)(cl:Cl K c C):hJ K C/\kitOne K (.ref C) (.type "ValueError")=↑true/\(∃R,mg "RotError" = ↑(.ref R)/\exmOne K (.ref C) (.ref R)=↑true)/\∀n∈nc,∃R,mg n=↑(.ref R)/\kitOne K (.ref C) (.ref R)=↑(c==n):=by
 have h:=f9.mp k.b c (Eh U);obtain⟨Z,e,h⟩:=tE h;cases e.symm.trans cl;simp only[d9,l6] at h;obtain⟨⟨⟨h1,h2⟩,D⟩,I⟩:=h;obtain⟨R,V,D⟩:=tE D;refine⟨K_ h1,h2,⟨R,k.m _ bi R V,l6.mp D⟩,λn S=>?_⟩;obtain⟨R,Y,I⟩:=tE (f9.mp I n S);exact⟨R,k.m _ (bg _ S) R Y,l6.mp I⟩
def eM.rot(k:eM K mg):∃R,mg "RotError" = ↑(.ref R)/\∀c C,(iE c).isSome=true->Cl K c C->exmOne K (.ref C) (.ref R)=↑true:=by
 have h:=f9.mp k.b "UnknownStack" (by decide);obtain⟨U,e,_⟩:=tE h;obtain⟨_,_,⟨R,D,_⟩,_⟩:=k.all (c:="UnknownStack") (by decide) e;refine⟨R,D,λc C I cl=>?_⟩;obtain⟨_,_,⟨V,S,z⟩,_⟩:=k.all I cl;cases D.symm.trans S;exact z
def tq(V:eM X.K X.mg)(Y:(iE c).isSome=true)(cl:Cl X.K c C)(hd:Hd ea C X)(an:bR Nn Cn X)(Z:cn∈nc:=by decide)(a:Gl X cn:=by walk_at "g")(D:(cn==("__debug__" : Str))=false:=by decide)(b:Bn X "isinstance":=by walk_at "b")(I:‹Nn[i]?=↑x›)(d:‹starEach [.Name x p1,.Name cn p2] X.env=(false,eval (.Name x p1) X.env)::starEach [.Name cn p2] X.env›)(S:‹starEach [.Name cn p2] X.env=(false,eval (.Name cn p2) X.env)::starEach [] X.env›)(U:‹(backTo pos (starEach [.Name cn p2] X.env)).any (·.1)=false›) :
  aS X G H0 (.Call (.Name "isinstance" p') [.Name x p1,.Name cn p2] [] pos) (dF ea i (c==cn)):=by
 obtain⟨e,_,_,h⟩:=V.all Y cl;obtain⟨R,f,g⟩:=h cn Z;exact KP hd e f g an a D b I d S U
def La(U:eM X.K X.mg)(V:(iE c).isSome=true)(cl:Cl X.K c C)(hd:Hd ea C X)(an:bR Nn Cn X)(Y:Bn X "ValueError":=by walk_at "b")(Z:Bn X "isinstance":=by walk_at "b")(D:‹Nn[i]?=↑x›)(a:‹starEach [.Name x p1,.Name "ValueError" p2] X.env=(false,eval (.Name x p1) X.env)::starEach [.Name "ValueError" p2] X.env›)(I:‹starEach [.Name "ValueError" p2] X.env=(false,eval (.Name "ValueError" p2) X.env)::starEach [] X.env›)(S:‹(backTo pos (starEach [.Name "ValueError" p2] X.env)).any (·.1)=false›) :
  aS X G H0 (.Call (.Name "isinstance" p') [.Name x p1,.Name "ValueError" p2] [] pos) (dF ea i true):=KR hd (U.all V cl).1 (U.all V cl).2.1 an Y Z D a I S
theorem Lb(T:bT K mg st x ps)(N:h6)(D:∀c d,kd c=↑d->lO N.length g c d)(I:∀ {f:Addr} {cdv:Value} {A:Around} {outer:i0} {s:Shared} {H:Hp} {ea C:Addr} {c:Str} {G:Gd} {H0:Hp},(kd c).isSome=true->Cl K c C->Hd ea C (kK P w K mg base N x (ip st) f cdv A outer s H)->bR N (iR N (ip st)) (kK P w K mg base N x (ip st) f cdv A outer s H)->eJ N (kK P w K mg base N x (ip st) f cdv A outer s H) ->
   gA (kK P w K mg base N x (ip st) f cdv A outer s H) G H0 (ny st) (g ea c))(h:iI N ps (ip st)=true:=by decide +kernel)(S:iH x=true:=by decide +kernel)(U:‹ps.length=1›):tp P w K mg base x (k+1) kd:=by
 obtain⟨f,fd,F,b,m⟩:=T;exact⟨f,fd,ps,yY F (tj h).1 rfl U D λcdv A outer s H ea C c G H0 V Y Z=>I V Y Z (vh h).nox.hush (vg h).nox.hush,m,F.kp,b,(um S).1⟩
def z4(ea:Addr)(c:Str):FS:=aE (aH 1 (aJ (gi (ak (dF ea 0 (c=="UnknownStack")) (ak (dF ea 0 (c=="EmptyStack")) aC))))) (aE (aH 1 (aJ (bW (aB 1) (aJ (gi (ak (dF ea 0 (c=="UnknownPlace")) (ak (dF ea 0 (c=="BadHours")) aC))))))) (aE (aH 1 (aJ (bW (aB 1) (aJ (gi (ak (dF ea 0 (c=="BadLoss")) (ak (dF ea 0 (c=="BadCount")) aC))))))) (aE (aH 1 (aJ (bW (aB 1) (aJ (gi (ak (dF ea 0 (c=="HouseFull")) (ak (dF ea 0 (c=="DeedsFull")) aC))))))) (aE (aH 1 (aJ (bW (aB 1) (aJ (gi (ak (dF ea 0 (c=="NothingWaits")) (ak (dF ea 0 (c=="NothingDone")) aC))))))) (aE (aH 1 (aJ (bW (aB 1) (aJ (gi (ak (dF ea 0 (c=="ShortOrder")) (ak (dF ea 0 (c=="TooManyOrders")) aC))))))) (aE (aH 1 (aJ (bW (aB 1) (aJ (gi (ak (dF ea 0 (c=="NotGone")) aC)))))) (aE (aH 2 (aJ (gi (ak (fC (.str "unknown stack")) (ak (fC (.str "empty stack")) (ak (fC (.str "unknown place")) (ak (fC (.str "bad hours")) (ak (fC (.str "bad loss")) (ak (fC (.str "bad count")) aC))))))))) (aE (aH 2 (aJ (bW (aB 2) (aJ (gi (ak (fC (.str "house full")) (ak (fC (.str "deeds full")) (ak (fC (.str "nothing waits")) (ak (fC (.str "nothing done")) (ak (fC (.str "short order")) aC)))))))))) (aE (aH 2 (aJ (bW (aB 2) (aJ (gi (ak (fC (.str "too many orders")) (ak (fC (.str "not gone")) aC))))))) (aE (aH 3 (aJ (jf (io fP (ak (fC ↥13) aC)) [2,1,0] (dI (aI (aF 2 (aB 0))) (aI (dF ea 3 true))) (aF 1 (aB 0))))) (aK (d5 jL (ak (aJ (bW (aJ (gi (ak (fC (.str "refused")) aC))) (aB 3))) aC)))))))))))))
def Lc(X:Cx)(G:Gd)(H0:Hp)(is:ic)(F:FA):TA:=λσ H Q=>∃W env ds env',Ok X.K G H0 W env σ H/\F env=↑(ds,env')/\dW env' is /\
 ∀W' us ws H',Step W H W' H'->Ok X.K G H0 W' env' σ H'->us.length=is.length->(∀(j i:Nat),is[j]?=↑i->∃u,us[j]?=↑u/\σ[i]?=↑↑u)->aL X.K H' (Ow G W') ds ws->Q (ws++us) H'
structure OD (X:Cx) (G:Gd) (H0:Hp) (is:ic) (es:j0) (F:FA):Prop where
 out:PA X es (Lc X G H0 is F)
variable{es:j0}
def Ei{k1}(h:mL X G H0 es y):JX X G H0 (.Tuple es k1 pos) y:=⟨(BN h.out).imp λ_ _ _ z=>z⟩
def Ej{sp:Sp}(c:bN X.prog X.w X.K X.mg X.base bV x k sp)(U:bA jr X.A)(V:mL X G H0 (e::es) y)(D:k<=jr:=by decide)(Y:Gl X x:=by walk_at "g")(Z:‹starEach (e::es) X.env=(false,eval e X.env)::starEach es X.env›)(I:‹(backTo pos (starEach es X.env)).any (·.1)=false›) :
  JX X G H0 (.Call (.Name x p') (e::es) [] pos) y:=let ⟨_,_,_,a,b,d,f,S⟩:=c;⟨(rA a (U.mono D) Y b d f .nil rF V.out S Z I).imp λ_ _ _ z=>z⟩
def Ld:PE X e (λ_ _ _=>False):=λpins s σ H Q I h=>h.elim
structure JI (X:Cx) (G:Gd) (H0:Hp) (tg e:Expr) (x:XF):Prop where
 out:PI X tg e (λσ H _=>jS X G H0 x σ H)
def Le(h:JX X G H0 a y):JI X G H0 tg a y:=⟨(v_ h.out).imp λ_ _ _ z=>z⟩
def Lf(I:mL X G H0 [a,b] y)(S:Bn X "zip":=by walk_at "b")(U:‹starEach [a,b] X.env=[(false,eval a X.env),(false,eval b X.env)]›)(D:‹starEach [b] X.env=[(false,eval b X.env)]›) :
  JI X G H0 (.Tuple es k p1) (.Call (.Name "zip" p') [a,b] [] pos) y:=⟨(C_ S I.out U D).imp λ_ _ _ z=>z⟩
def Ek(hi:JI X G H0 tg a y)(D:PassesOwn (model X.prog X.w) X.A X.env X.xe:=by passes_own)(I:‹X.calm=true›)(S:∀x,foldedSetIterable a X.env x=pure x:=by intro _;rfl):oY X G H0 (.For tg a body [] pos) y :=
 ⟨(B4 (g:=λ_ _ _ _=>False) (tb:=λ_ _ _=>False) D I hi.out (λ_ _ _ _ _ _ _ _ _ h=>h.elim) (λ_ _ _ _ _ _ h=>h.elim) S).imp λ_ _ _ z=>z⟩
def Lg:PA X es (λ_ _ _=>False):=λ_ _ _ _ _ _ _ h=>h.elim
def Lh(D:JX X G H0 a y):JX X G H0 (.BinOp a .Sub b pos) y:=⟨(ri B6 D.out (Ld (e:=b))).imp λ_ _ _ z=>z⟩
def pB(D:JX X G H0 e y)(S:‹starEach (e::es) X.env=(false,eval e X.env)::starEach es X.env›):mL X G H0 (e::es) y:=⟨λpos pins s σ H Q I h=>(om D.out (Lg (es:=es)) S) pos pins s σ H Q I h⟩
def pE:V->Prop | .bl _=>True | .int _=>True | .str _=>True |_=>False
def zA:D->Bool | .bl _=>true | .int _=>true | .str _=>true |_=>false
instance (ds es:k4):Decidable (ds=es/\ds.all zA=true):=Classical.propDecidable _
def jN:D->D->k6 | .tup ds,.tup es=>if ds=es/\ds.all zA=true then ↑(.bl false) else none |_,_=>none
def pF(K:kf):R2:=λx y H Q=>∃p q vs,x=.ref p/\y=.ref q/\eG K H p vs/\eG K H q vs/\(∀v∈vs,pE v)/\Q (.bl false) H
theorem Li(c:X.A.units<cLine):fV X (compareOp .NotEq) (pF X.K):=by
 intro pins s σ H x y v u Q I d f h;obtain⟨p,q,vs,rfl,rfl,h1,h2,g,k⟩:=h;cases d;cases f;obtain⟨its,Z,l,_⟩:=I.tuple h1;obtain⟨its',D,V,_⟩:=I.tuple h2;show wpAny (model X.prog X.w) X.A (richCompare .NotEq (.ref p) (.ref q)) (EP X pins σ Q) X.xe s;have m:=Z.length;have n:=D.length;have r:=SeqAt.RcNeAt.tuples (A:=X.A) (s:=s) (e:=λ_=>true) (show s.heap.IsTuple p its.toArray from l) (show s.heap.IsTuple q its'.toArray from V) c (λj h1 h2=>by
  have h1:j<its.length:=by simpa using h1
  have h2:j<its'.length:=by simpa using h2
  have Y:vs[j]?=↑(vs[j]'∅):=bc _;obtain⟨o,z,S⟩:=Z.get Y;obtain⟨B,C,U⟩:=D.get Y;have E:its.toArray[j]'(by simpa using h1)=o:=by simpa[bc h1] using z
  have f2:its'.toArray[j]'(by simpa using h2)=B:=by simpa[bc h2] using C
  rw[E,f2];have a:=g _ (bh Y);generalize vs[j]'∅=v at S U a;cases v with
  |bl b=>cases S;cases U;have:=SeqAt.EqAt.bool_bool (A:=X.A.in1) (s:=s) b b;rwa [m7] at this
  |int i=>obtain⟨t,rfl⟩:=S;obtain⟨t',rfl⟩:=U;have:=SeqAt.EqAt.int_int (A:=X.A.in1) (s:=s) i t i t';rwa [m7] at this
  |str x=>obtain⟨t,rfl⟩:=S;obtain⟨t',rfl⟩:=U;have:=SeqAt.EqAt.str_str (A:=X.A.in1) (s:=s) x t x t';rwa [m7] at this |_=>exact a.elim)
 exact r X.prog X.w X.xe _ (ma I k (by simp[<-m,<-n]))
def El{K:kf}{H:Hp}{O:Addr->Prop}:∀ {ds:k4} {vs us:kv},aL K H O ds vs->aL K H O ds us->ds.all zA=true->vs=us/\∀v∈vs,pE v
 | [],vs,us,r,q,_=>by cases r;cases q;exact⟨rfl,λv h=>by cases h⟩
 |d::ds,vs,us,r,q,h=>by
   cases r with
   |cons r0 r =>
     cases q with
     |cons q0 q =>
       rw[List.all_cons,d9] at h;obtain⟨rfl,h2⟩:=El r q h.2;have h1:=h.1;cases d <;> try (cases h1;done)
       all_goals (cases r0;cases q0;exact⟨rfl,λv I=>(b6.mp I).elim (λe=>by subst e;trivial) (h2 v)⟩)
def Lj:fX X G H0 (pF X.K) jN:=by
 intro W env σ H x y Y Z d Q ok D I e k;unfold jN at e;split at e;case h_2=>cases e
 split at e;case isFalse=>cases e
 rename_i h;cases e;obtain⟨rfl,h⟩:=h;obtain⟨p,vs,rfl,h1,S⟩:=D.tup_;obtain⟨q,us,rfl,h2,U⟩:=I.tup_;obtain⟨rfl,V⟩:=El S U h;exact⟨p,q,vs,rfl,rfl,eG.of h1,eG.of h2,V,k _ H Step.refl ok (.bl _)⟩
def Lk{f g:FE}(D:bA jr X.A)(I:aS X G H0 a f)(S:aS X G H0 b g):gD X G H0 (.Compare a [.NotEq] [b] pos) (aI (aD jN f g)):=yt (Li (l7 (o5 _) (Cj D))) Lj I S (wg _)
end L2
local macro_rules | `(!$t)=>`(some (.sh $t))
local macro_rules | `([:$t])=>`(L2.fC (.int $t))
namespace LB
open PySem L2
def Em:FS:=aK (aD aZ (aD cN (aF 0 [:1]) (aF 1 [:0])) (aD cN (aF 1 [:1]) (aF 0 [:0])))
def x6:k4->k6:=aR 2 2 Em
def tF:FS:=aE (aH 2 (d5 x6 (ak (aB 0) (ak (aB 1) (aC))))) (aE (aV (aI (aD d_ (aB 2) [:0])) (aK [:1]) (aM)) (aE (aV (aI (aD gG (aB 2) [:0])) (aK (gF dN [:1])) (aM)) (aK [:0])))
def wz:k4->k6:=aR 3 2 tF
def En:FS:=aK (xo (fJ "int" (aB 0)) (x0 (fJ "bool" (aB 0))))
def mQ:k4->k6:=aR 1 1 En
def zB:FS:=aE (aV (aI (aD gG (aB 1) (jh 0))) (aK (aF 0 (aB 1))) (aM)) (aK [:0])
def pG:k4->k6:=aR 2 2 zB
def tG:FS:=aE (aH 5 (d5 pG (ak (aB 0) (ak (aB 4) (aC))))) (aE (aV (aI (aD bU (aD bF (jh 0) [:2]) [:1])) (aE (aH 3 (aD bF (aD iq (aD iq (aD iq (aD cN (aB 3) [:48271]) (aB 5)) (aB 4)) [:1]) [:2147483647])) (aH 5 (aD bF (aD cN (aD iq (aB 3) (aB 4)) [:69621]) [:2147483647]))) (aM)) (je (oj 2 (aB 5))))
def Eo:FS:=aE (cQ 2 (gi (aC))) (aE (aH 3 [:7]) (aE (bY 4 (io fP (ak (aB 1) (aC))) (tG)) (aK (aB 2))))
def pH:k4->k6:=aR 6 2 Eo
def Ll:FS:=aK (aF 0 [:1])
def rq:k4->k6:=aR 1 1 Ll
def Lm:FS:=aK (aF 0 [:2])
def vv:k4->k6:=aR 1 1 Lm
def Ln:FS:=aK (aW (ak [:1] (ak (d5 rq (ak (aB 0) (aC))) (ak (d5 vv (ak (aB 0) (aC))) (aC)))))
def tH:k4->k6:=aR 1 1 Ln
def Ep:FS:=aK (aW (ak (aD iq (aF 0 [:0]) (aF 1 [:0])) (ak (aD iq (aF 0 [:1]) (aF 1 [:1])) (ak (aD iq (aF 0 [:2]) (aF 1 [:2])) (aC)))))
def tI:k4->k6:=aR 2 2 Ep
def Er:FS:=aK (aW (ak (aF 0 [:1]) (ak (aF 0 [:2]) (aC))))
def pI:k4->k6:=aR 1 1 Er
def tJ:FS:=aK (aD d_ (d5 wz (ak (d5 pI (ak (aB 0) (aC))) (ak (d5 pI (ak (aB 1) (aC))) (aC)))) [:0])
def xh:k4->k6:=aR 2 2 tJ
def tK:FS:=aH 3 (d5 tI (ak (lC 1) (ak (aB 3) (aC))))
def tL:FS:=aE (aH 3 (d5 tH (ak (aB 2) (aC)))) (aE (pq (dI (aI (aD d_ (jh 1) [:0])) (cW (aI (d5 xh (ak (aF 1 (gF dN [:1])) (ak (aB 3) (aC))))))) (tK) 10000) (je (oj 1 (aB 3))))
def zC:FS:=aE (cQ 1 (gi (aC))) (aE (bY 2 (cP (aB 0)) (tL)) (aK (aB 1)))
def zD:k4->k6:=aR 4 1 zC
def zt:FS:=aE (aV (dI (aI (fJ "str" (aF 1 (aB 2)))) (cW (aI (fJ "str" (aF 0 (aB 2)))))) (aK (fC (.bl false))) (aM)) (aE (aV (dI (cW (aI (fJ "str" (aF 1 (aB 2))))) (cW (aI (d5 mQ (ak (aF 0 (aB 2)) (aC)))))) (aK (fC (.bl false))) (aM)) (aV (aI (aD jZ (aF 0 (aB 2)) (aF 1 (aB 2)))) (aK (fC (.bl false))) (aM)))
def pJ:FS:=aE (aV (gL (cW (aI (fJ "tuple" (aB 0)))) (aI (aD jZ (jh 0) (jh 1)))) (aK (fC (.bl false))) (aM)) (aE (bY 2 (io fP (ak (jh 1) (aC))) (zt)) (aK (fC (.bl true))))
def vz:k4->k6:=aR 3 2 pJ
def pK:FS:=aV (cW (aI (d5 vz (ak (aF 0 (aB 2)) (ak (aF 1 (aB 2)) (aC)))))) (aK (fC (.bl false))) (aM)
def pL:FS:=aE (aV (gL (cW (aI (fJ "list" (aB 0)))) (aI (aD jZ (jh 0) (jh 1)))) (aK (fC (.bl false))) (aM)) (aE (bY 2 (io fP (ak (jh 1) (aC))) (pK)) (aK (fC (.bl true))))
def yb:k4->k6:=aR 3 2 pL
def Es:FS:=aK (aW (ak (aF 0 [:2]) (ak (aF 0 [:3]) (aC))))
def wy:k4->k6:=aR 1 1 Es
def pM:FS:=aH 2 (aD iq (aB 2) [:1])
def zE:FS:=aE (aH 2 [:0]) (aE (pq (dI (aI (aD gG (aB 2) (jh 0))) (aI (aD iL (d5 wz (ak (d5 wy (ak (aF 0 (aB 2)) (aC))) (ak (d5 wy (ak (aB 1) (aC))) (aC)))) [:0]))) (pM) 10000) (aK (aB 2)))
def zF:k4->k6:=aR 3 2 zE
def pN:FS:=aE (aH 7 (aW (ak (aB 2) (ak (aB 4) (ak (aB 5) (ak (aB 6) (aC))))))) (je (sd 1 (oP zF (sC 1 (ak (aB 7) (aC)))) (aB 7)))
def tM:FS:=qa [4,5,6] (cP (d5 zD (ak (aB 3) (aC)))) (pN)
def zG:FS:=aE (cQ 1 (gi (aC))) (aE (qa [2,3] (io (iY 1) (ak (aB 0) (aC))) (tM)) (aK (aB 1)))
def mR:k4->k6:=aR 8 1 zG
def zH:FS:=aV (cW (aI (d5 yb (ak (aF 0 (aB 2)) (ak (aF 1 (aB 2)) (aC)))))) (aK (fC (.bl false))) (aM)
def zI:FS:=aE (aV (gL (cW (aI (fJ "list" (aB 0)))) (aI (aD jZ (jh 0) (jh 1)))) (aK (fC (.bl false))) (aM)) (aE (bY 2 (io fP (ak (jh 1) (aC))) (zH)) (aK (fC (.bl true))))
def zJ:k4->k6:=aR 3 2 zI
def zK:FS:=xO (jf (cP (aB 0)) [] b_ (aJ (io qj (ak (aB 0) (aC)))))
def pO:k4->Option k4:=gS 1 1 zK
def tN:FS:=je (sv 1 (iO (gi (ak (aB 2) (aC))) (aB 3)))
def zL:FS:=aE (cQ 1 (gi (aC))) (aE (qa [2,3,4,5] (cP (d5 mR (ak (aB 0) (aC)))) (tN)) (oE 1))
def ya:k4->Option k4:=gS 6 1 zL
def pP:FS:=aE (aH 2 (aD iq (aB 2) (aD cS (aF 0 (aB 4)) [:1]))) (aE (aH 3 (aD iq (aB 3) (aD cS (aF 0 (aB 4)) [:2]))) (aV (aI (aD iL (aD cN (aB 3) (aF 1 [:1])) (aD cN (aF 1 [:2]) (aB 2)))) (aH 1 (aJ (gi (ak (aD iq (aB 4) [:1]) (ak (aB 2) (ak (aB 3) (aC))))))) (aM)))
def tO:FS:=aE (aH 1 (aJ (gi (ak [:0] (ak [:1] (ak (gF dN [:1]) (aC))))))) (aE (aH 2 [:0]) (aE (aH 3 [:0]) (aE (bY 4 (io fP (ak (jh 0) (aC))) (pP)) (aK (aB 1)))))
def pQ:k4->k6:=aR 5 1 tO
def mS:FS:=aV (aI (aD d_ (aD cN (aD cS (aF 3 (aB 5)) [:2]) (aD cS (aF 3 (aB 4)) [:1])) (aD cN (aD cS (aF 3 (aB 4)) [:2]) (aD cS (aF 3 (aB 5)) [:1])))) (aH 4 (aB 5)) (aM)
def tP:FS:=aE (aH 3 (aJ (jf (lE 1) [] b_ (d5 pQ (ak (aB 0) (aC)))))) (aE (aH 4 [:0]) (aE (bY 5 (io fP (ak (jh 3) (aC))) (mS)) (aE (je (oj 2 (aW (ak (aD iq (aB 4) [:1]) (ak (aD cS (aF 3 (aB 4)) [:0]) (ak (aD cS (aF 3 (aB 4)) [:1]) (ak (aD cS (aF 3 (aB 4)) [:2]) (aC)))))))) (yp 1 (aB 4) (aJ (fI (aF 1 (aB 4)) (fF (aD cS (aF 3 (aB 4)) [:0])) (fY)))))))
def zM:FS:=aE (cQ 1 (jf (cP (aB 0)) [] b_ (aJ (io qj (ak (aB 0) (aC)))))) (aE (cQ 2 (gi (aC))) (aE (pq (aI (aD d_ (d5 fE (ak (aJ (jf (lE 1) [] b_ (jh 0))) (aC))) [:0])) (tP) 10000) (aK (aB 2))))
def tQ:k4->k6:=aR 6 1 zM
def Lo:FS:=aK (aF 0 [:0])
def oq:k4->k6:=aR 1 1 Lo
def zN:FS:=aV (gL (aI (aD gG (aB 1) [:1])) (aI (aD d_ (aB 1) (jh 0)))) (rW) (aM)
def zO:k4->k6:=aR 2 2 zN
def tR:FS:=aE (aV (aI (aD bU (aF 2 (aD aZ (aB 3) [:1])) [:0])) (rW) (aM)) (uj 2 aZ (aD aZ (aB 3) [:1]) [:1])
def zP:FS:=aE (cQ 2 (jf (cP (aB 0)) [] b_ (jh 0))) (aE (bY 3 (cP (aB 1)) (tR)) (aV (aI (aD d_ (we 2) [:0])) (rW) (aM)))
def zQ:k4->k6:=aR 4 2 zP
def tS:FS:=je (d5 zO (ak (aB 0) (ak (aB 2) (aC))))
def zR:FS:=aE (bY 2 (cP (aB 1)) (tS)) (je (d5 zQ (ak (aB 0) (ak (aB 1) (aC)))))
def zS:k4->k6:=aR 3 2 zR
def tT:FS:=aE (je (oj 3 (aD cS (aF 0 (aD aZ (aB 4) [:1])) (aF 2 (aD aZ (aB 4) [:1]))))) (uj 2 iq (aD aZ (aB 4) [:1]) [:1])
def zT:FS:=aE (je (d5 zS (ak (aB 0) (ak (aB 1) (aC))))) (aE (cQ 2 (jf (cP (aB 0)) [] b_ [:0])) (aE (cQ 3 (gi (aC))) (aE (bY 4 (cP (aB 1)) (tT)) (aK (aB 3)))))
def zr:k4->k6:=aR 5 2 zT
def zU:FS:=aE (aH 6 (aD iq (aB 3) (d5 rq (ak (aB 5) (aC))))) (aE (je (oj 2 (aW (ak (d5 oq (ak (aB 5) (aC))) (ak (aB 4) (ak (aB 3) (ak (aB 6) (aC)))))))) (aH 3 (aB 6)))
def zV:FS:=aE (cQ 2 (gi (aC))) (aE (aH 3 [:0]) (aE (qa [4,5] (io lD (ak (aB 1) (ak (d5 zr (ak (aB 0) (ak (aB 1) (aC)))) (aC)))) (zU)) (aK (aB 2))))
def Et:k4->k6:=aR 7 2 zV
def zW:FS:=aE (aH 5 (aJ (sA (io fP (ak (jh 2) (aC))) [2] (aI (aD d_ (aF 1 (aB 0)) [:0])) (aB 0)))) (aE (aH 6 (aF 5 (aD bF (aB 1) (jh 5)))) (aE (aH 1 (aD cK (aB 1) (jh 5))) (aE (yp 2 (aB 6) (aD aZ (aF 2 (aB 6)) [:1])) (je (oj 3 (aD iq (aB 6) [:1]))))))
def zX:FS:=aE (cQ 2 (jf (cP (aB 0)) [] b_ (jh 0))) (aE (cQ 3 (gi (aC))) (aE (bY 4 (io fP (ak (we 2) (aC))) (zW)) (oE 3)))
def tU:k4->Option k4:=gS 7 2 zX
def Lp:FS:=aE (aH 3 (aD iq (aB 3) (d5 rq (ak (aB 4) (aC))))) (aH 2 (aD iq (aB 2) (aD cN (d5 vv (ak (aB 4) (aC))) (aB 3))))
def Lq:FS:=aE (aH 2 [:0]) (aE (aH 3 [:0]) (aE (bY 4 (cP (d5 zr (ak (aB 0) (ak (aB 1) (aC))))) (Lp)) (aK (aB 2))))
def zY:k4->k6:=aR 5 2 Lq
def Lr:FS:=aK (d5 zY (ak (aB 0) (ak (aJ (io ya (ak (aB 0) (aC)))) (aC))))
def zZ:k4->k6:=aR 1 1 Lr
def Ls:FS:=aE (aH 8 (aF 2 (aD aZ (aB 4) [:1]))) (aE (yp 2 (aD aZ (aB 4) [:1]) (aD iq (aB 8) (aB 5))) (je (oj 3 (aJ (fI (aF 0 (aD aZ (aB 4) [:1])) (fF (aB 8)) (fF (aD iq (aB 8) (aB 5))))))))
def Lu:FS:=aE (cQ 2 (jf (cP (aB 0)) [] b_ [:0])) (aE (cQ 3 (gi (aC))) (aE (qa [4,5,6,7] (cP (aB 1)) (Ls)) (aK (aB 3))))
def z_:k4->k6:=aR 9 2 Lu
def Lv:FS:=aE (aH 3 (aD iq (aB 3) (d5 rq (ak (aB 5) (aC))))) (aE (aH 4 (aD iq (aB 4) (d5 vv (ak (aB 5) (aC))))) (je (oj 2 (d5 x6 (ak (aB 0) (ak (aW (ak (aB 3) (ak (aB 4) (aC)))) (aC)))))))
def Lw:FS:=aE (cQ 2 (gi (aC))) (aE (aH 3 [:0]) (aE (aH 4 [:0]) (aE (bY 5 (cP (aJ (fI (aB 1) (fY) (fF (gF dN [:1]))))) (Lv)) (aK (aB 2)))))
def Eu:k4->k6:=aR 6 2 Lw
def Lx:FS:=aK (aW (ak (d5 rq (ak (aB 0) (aC))) (ak (d5 vv (ak (aB 0) (aC))) (aC))))
def pR:k4->k6:=aR 1 1 Lx
def Ly:FS:=aK (d5 oR (ak (aJ (sF 2 (io (iY 0) (ak (aB 0) (aC))) [] b_ (aW (ak (d5 oq (ak (aB 1) (aC))) (ak (aB 0) (aC)))))) (aC)))
def pS:k4->k6:=aR 1 1 Ly
def Lz:FS:=aV (aI (aD gG (aD uh (aB 2) (d5 oq (ak (aB 7) (aC)))) (aD uh (aB 2) (d5 oq (ak (aB 6) (aC)))))) (aE (aH 8 (d5 x6 (ak (d5 pR (ak (aB 6) (aC))) (ak (d5 pR (ak (aB 7) (aC))) (aC))))) (je (oj 4 (aW (ak (d5 oq (ak (aB 6) (aC))) (ak (d5 oq (ak (aB 7) (aC))) (ak (aB 8) (aC)))))))) (aM)
def L0:FS:=bY 7 (cP (aJ (fI (aB 3) (fF (aD iq (aB 5) [:1])) (fY)))) (Lz)
def L1:FS:=aE (aH 2 (d5 pS (ak (d5 zr (ak (aB 0) (ak (aB 1) (aC)))) (aC)))) (aE (aH 3 (d5 zr (ak (aB 0) (ak (aJ (io ya (ak (aB 0) (aC)))) (aC))))) (aE (cQ 4 (gi (aC))) (aE (qa [5,6] (io (iY 0) (ak (aB 3) (aC))) (L0)) (aK (aB 4)))))
def L3:k4->k6:=aR 9 2 L1
def Aa:FS:=aK (d5 fE (ak (aJ (jf (cP (aB 0)) [] b_ (jh 0))) (aC)))
def tW:k4->k6:=aR 1 1 Aa
def tX:FS:=aH 1 (aD iq (aB 1) (d5 fE (ak (aJ (jf (cP (aB 2)) [] b_ (d5 vv (ak (aB 0) (aC))))) (aC))))
def Ab:FS:=aE (aH 1 [:0]) (aE (bY 2 (cP (aB 0)) (tX)) (aK (aB 1)))
def Ac:k4->k6:=aR 3 1 Ab
def Ad:FS:=aK (aD cS (aF 0 (aD aZ (aB 1) [:1])) [:0])
def tY:k4->k6:=aR 2 2 Ad
def Ae:FS:=aK (aJ (bW (aJ (bW (aJ (fI (aB 0) (fY) (fF (aD aZ (aB 1) [:1])))) (aJ (gi (ak (aB 2) (aC)))))) (aJ (fI (aB 0) (fF (aB 1)) (fY)))))
def mT:k4->k6:=aR 3 3 Ae
def Af:FS:=aK (d5 mT (ak (aB 0) (ak (aB 1) (ak (aJ (fI (aF 0 (aD aZ (aB 1) [:1])) (fF [:1]) (fY))) (aC)))))
def tZ:k4->k6:=aR 2 2 Af
theorem L4(ns:ik)(k:Nat):∃c,pG [.lst (ns.map D.int),↥k]=↑↥c:=by
 by_cases h:(k:Int)<ns.length
 ·obtain⟨x,h1,h2⟩:=Ki (xs:=ns.map D.int) (i:=(k:Int)) ∅ (by simpa using h)
  rw[cb] at h2;cases q:ns[(k:Int).toNat]? with
  |none=>rw[q] at h2;cases h2
  |some c =>
    rw[q] at h2;cases h2;simp[pG,aR,zB,ki,h,h1]
 ·refine⟨0,?_⟩
  simp[pG,aR,zB,ki,h]
theorem L5(ns:ik)(n:Nat)(b:n<=1000):∃cs:ik,cs.length=n/\pH [.lst (ns.map D.int),↥n]=↑(.lst (cs.map D.int)):=by
 have loop:=u4 (i:=4) (g:=tG)
  (λk e=>∃(cs:ik) (st:Int) (U v5:k8),cs.length=k/\e=[!.lst (ns.map D.int),!↥n,↑(.ow (cs.map D.int)),!↥st,U,v5])
  (bS 0 n) [!.lst (ns.map D.int),!↥n,↑(.ow []),!↥7,none,none] ⟨[],7,none,none,rfl,rfl⟩ ?_
 ·obtain⟨e',h1,cs,st,U,v5,S,rfl⟩:=loop
  refine⟨cs,by rw[S,x8],?_⟩;have Z:=qb n ∅;simp[pH,aR,Eo,ki,Z,h1]
 ·rintro k d e hd ⟨cs,st,U,v5,S,rfl⟩
  obtain⟨rfl,f⟩:=uv hd;obtain⟨c,V⟩:=L4 ns k;have I:cI (cs.length+1):=few ∅;by_cases Y:(ns.length:Int) % 2=1
  ·refine⟨_,?_,cs++[((st*48271+c+k+1) % 2147483647+k)*69621 % 2147483647],(st*48271+c+k+1) % 2147483647,!↥(0+k),!↥(((st*48271+c+k+1) % 2147483647+k)*69621 % 2147483647),by simp[S],rfl⟩
   have a:pk 48271:=uu (by decide);have s2:pk 69621:=uu (by decide);simp[tG,V,Y,bF,cN,a,s2,I]
  ·refine⟨_,?_,cs++[c],st,!↥(0+k),!↥c,by simp[S],rfl⟩
   simp[tG,V,Y,bF,I]
def L6(a b c d:Int)(D:pk b)(hd:pk d) :
  x6 [.tup [↥a,↥b],.tup [↥c,↥d]]=↑↥(b*c-d*a):=by
 simp[x6,aR,Em,ki,cN,D,hd,bG,eI]
theorem Ev(a b c d:Int)(U:pk b)(hd:pk d) :
  wz [.tup [↥a,↥b],.tup [↥c,↥d]]=↑↥(if d*a<b*c then 1 else if b*c<d*a then -1 else 0):=by
 have I:=L6 a b c d U hd;by_cases h1:d*a<b*c
 ·have D:0<b*c-d*a:=by lia
  simp[wz,aR,tF,ki,I,h1,D]
 ·have D:¬0<b*c-d*a:=by lia
  by_cases h2:b*c<d*a
  ·have S:b*c-d*a<0:=by lia
   simp[wz,aR,tF,ki,I,h1,h2,D,S]
  ·have S:¬b*c-d*a<0:=by lia
   simp[wz,aR,tF,ki,I,h1,h2,D,S]
def Ew(i:Int):mQ [↥i]=↑(.bl true):=by
 simp[mQ,aR,En,ki]
abbrev Sk:=Int×Int×Int
abbrev ll:=List Sk
abbrev ln:=List (List Sk)
def sD(s:Sk):D:=.tup [↥s.1,↥s.2.1,↥s.2.2]
def j5(s:Sk):Prop:=1<=s.1/\s.1<=60/\1<=s.2.1/\s.2.1<=60/\0<=s.2.2/\s.2.2<=100
def b3:iW 1 1073741824 3:=⟨by decide,by decide⟩
variable{n i:Nat}
def wp{i:Int}(D:0<=i)(h1:i<n):eI n i=↑i.toNat:=by unfold eI;rw[am D,am h1]
noncomputable def hl:FS:=aE (aH 10 (aD iq [:1] (aD bF (aB 9) [:60]))) (aE (aH 11 (aD bF (aD cK (aB 9) [:60]) [:101])) (aE (aV (aI (aD bU (aB 4) [:1])) (aE (aH 10 (aD iq [:1] (aD bF (aB 9) (aD aZ [:4] (aD cN [:2] (aB 5)))))) (aH 11 (aD bF (aD cK (aB 9) [:60]) (aD aZ [:4] (aD cN [:2] (aB 5)))))) (aM)) (aE (aV (aI (aD bU (aB 4) [:2])) (aE (aH 10 (aD cS (aJ (gi (ak [:1] (ak [:60] (ak [:2] (ak [:59] (aC))))))) (aD bF (aB 9) [:4]))) (aH 11 (aD cS (aJ (gi (ak [:0] (ak [:100] (ak [:1] (ak [:99] (aC))))))) (aD bF (aD cK (aB 9) [:60]) [:4])))) (aM)) (aV (aI (aD bU (aB 4) [:3])) (aE (aH 10 (aD cS (aJ (gi (ak (aB 10) (ak (aD iq [:58] (aD bF (aB 9) [:3])) (aC))))) (aB 5))) (aH 11 (aB 10))) (aM)))))
def OE(s:ll):ll:=match s.getLast? with
 |none=>[] |some x=>s.dropLast++[(x.1,x.2.1,x.2.2+1)]
structure L7 (menu:Int) (many k:Nat) (sss:ln) (pool:ik):Prop where
 len:sss.length=many
 tot:sss.flatten.length=k
 good:∀x∈sss.flatten,j5 x/\(menu=3->x.2.2<=60)
 perm:(pool++sss.flatten.map (·.1)).Perm (xC 1 61)
structure OF (most:Nat) (ss:ln):Prop where
 many:ss.length<=5
 tot:ss.flatten.length<=most
 good:∀x∈ss.flatten,j5 x
 nd:(ss.flatten.map (·.1)).Nodup
def iT(xs:ik):D:=.tup (xs.map D.int)
variable{α:Type}{k:Nat}
theorem mi(f:α->D){xs:List α}{x:α}(h:xs[k]?=↑x):bG (xs.map f) (k:Int)=↑(f x):=by
 have I:=(aj.mp h).1;unfold bG;rw[wp ∅ (by rw[ai];lia)];simp[h]
theorem L8(xs:ik)(V:xs.length<=1000):vz [iT xs,iT xs]=↑(.bl true):=by
 obtain⟨e',h1,v2,rfl⟩:=u4 (i:=2) (g:=zt) (λk e=>∃v2,e=[!iT xs,!iT xs,v2]) (bS 0 xs.length) [!iT xs,!iT xs,none] ⟨none,rfl⟩ (by
  rintro k d e hd ⟨v2,rfl⟩;obtain⟨rfl,S⟩:=uv hd;have U:bG (xs.map D.int) (k:Int)=↑(.int xs[k]):=mi D.int (by simp[S]);exact⟨[!iT xs,!iT xs,!↥(0+k)],by simp[zt,iT,U,Ew],_,rfl⟩)
 have hi:=qb xs.length ∅;refine mf (e':=?w) rfl ?h;show pJ [!iT xs,!iT xs,none]=_;have I:cF 2 zt (bS 0 xs.length) [!.tup (xs.map D.int),!.tup (xs.map D.int),none]=↑(.nx,[!.tup (xs.map D.int),!.tup (xs.map D.int),v2]):=h1;simp[pJ,iT,hi,I];rfl
theorem L9(f:α->ik)(xs:List α)(V:xs.length<=1000)(I:∀x∈xs,(f x).length<=1000):yb [.lst (xs.map λx=>iT (f x)),.lst (xs.map λx=>iT (f x))]=↑(.bl true):=by
 obtain⟨e',h1,v2,rfl⟩:=u4 (i:=2) (g:=pK) (λk e=>∃v2,e=[!(.lst (xs.map λx=>iT (f x))),!(.lst (xs.map λx=>iT (f x))),v2]) (bS 0 xs.length) [!(.lst (xs.map λx=>iT (f x))),!(.lst (xs.map λx=>iT (f x))),none] ⟨none,rfl⟩ (by
  rintro k d e hd ⟨v2,rfl⟩;obtain⟨rfl,D⟩:=uv hd;have S:bG (xs.map λx=>iT (f x)) (k:Int)=↑(iT (f xs[k])):=mi _ (by simp[D]);have U:=L8 (f xs[k]) (I _ (ig D));exact⟨[!(.lst (xs.map λx=>iT (f x))),!(.lst (xs.map λx=>iT (f x))),!↥(0+k)],by simp[pK,S,U],_,rfl⟩)
 have hi:=qb xs.length ∅;refine mf (e':=?w) rfl ?h;show pL [!(.lst (xs.map λx=>iT (f x))),!(.lst (xs.map λx=>iT (f x))),none]=_;simp[pL,hi,h1];rfl
abbrev Bk:=Int×Int×Int
def aU(r:ll):Int:=(r.map (·.2.1)).sum
def a_(r:ll):Int:=(r.map (·.2.2)).sum
def bM(r:ll):Bk:=(r.length,aU r,a_ r)
def jn(u b:Bk):Bk:=(u.1+b.1,u.2.1+b.2.1,u.2.2+b.2.2)
def gt(u b:Bk):Prop:=b.2.2*u.2.1<u.2.2*b.2.1
instance (u b:Bk):Decidable (gt u b):=inferInstanceAs (Decidable (_<_))
def iF(b:Bk):Prop:=pk b.2.1/\pk b.2.2
def LA(s:Sk):tH [sD s]=↑(sD (1,s.2.1,s.2.2)):=by
 rfl
def LC(u b:Bk):tI [sD u,sD b]=↑(sD (jn u b)):=by
 simp[tI,aR,Ep,ki,sD,Kj,sG,oU,jn]
def LD(u b:Bk)(Y:iF u)(Z:iF b):xh [sD u,sD b]=↑(.bl (decide (gt u b))):=by
 obtain⟨a,I,S⟩:=u;obtain⟨c,U,b3⟩:=b;have V:∀x y z:Int,pI [sD (x,y,z)]=↑(.tup [↥y,↥z]):=λx y z=>by simp[pI,aR,Er,ki,sD,sG,oU]
 have D:=Ev I S U b3 Y.2 Z.2;by_cases h1:b3*I<S*U
 ·rw[am h1] at D
  simp[xh,aR,tJ,ki,V,D,gt,h1]
 ·rw[bw h1] at D
  by_cases h2:S*U<b3*I
  ·rw[am h2] at D
   simp[xh,aR,tJ,ki,V,D,gt,h1]
  ·rw[bw h2] at D
   simp[xh,aR,tJ,ki,V,D,gt,h1]
def Ex(bs:k4)(x:D):bG (bs++[x]) (-1)=↑x:=HE bs x
def vk(a b:ll):aU (a++b)=aU a+aU b:=by simp[aU]
def vj(a b:ll):a_ (a++b)=a_ a+a_ b:=by simp[a_]
def LF(a b:ll):jn (bM a) (bM b)=bM (a++b):=by
 simp only[jn,bM,vk,vj,ax];simp
theorem mU(r:ll)(h:∀x∈r,j5 x):(r.length:Int)<=aU r/\aU r<=60*r.length/\0<=a_ r/\a_ r<=100*r.length:=by
 induction r with
 |nil=>simp[aU,a_] |cons x r ih =>
   obtain⟨h1,h2,D,I⟩:=ih λy S=>h y (bg _ S);obtain⟨_,_,U,V,Y,Z⟩:=h x bi;simp[aU,a_,gn] at h1 h2 D I ⊢
   lia
theorem t_(r:ll)(h:∀x∈r,j5 x)(D:r.length<=1000):iF (bM r):=by
 obtain⟨h1,h2,I,S⟩:=mU r h;exact⟨uu (by show -1000000000000<aU r/\aU r<1000000000000;lia),uu (by show -1000000000000<a_ r/\a_ r<1000000000000;lia)⟩
def nv:ln->ll->ln×ll
 | [],b=>([],b) |u::r,b=>if gt (bM u) (bM b) then(u::r,b) else nv r (u++b)
def bD(r:ll):D:=sD (bM r)
def LG(v0 v2:k8)(bs:k4)(u b:ll):tK [v0,↑(.ow (bs++[bD u])),v2,!bD b]=↑(.nx,[v0,↑(.ow bs),v2,!bD (u++b)]):=by
 have e:=LC (bM u) (bM b);rw[LF] at e;simp[tK,bD,e]
theorem Ey(v0 v2:k8):∀(n:Nat) (D:ln) (b:ll),D.length<n->(∀r∈D,∀x∈r,j5 x)->(∀x∈b,j5 x)->(D.flatten.length+b.length<=1000) ->
  pq (dI (aI (aD d_ (jh 1) [:0])) (cW (aI (d5 xh (ak (aF 1 (gF dN [:1])) (ak (aB 3) (aC))))))) tK n
   [v0,↑(.ow (D.reverse.map bD)),v2,!bD b]=↑(.nx,[v0,↑(.ow ((nv D b).1.reverse.map bD)),v2,!bD (nv D b).2])
 |n+1,[],b,_,_,_,_=>by simp[pq,nv] |n+1,u::r,b,h,hs,hb,hl=>by
   rw[eh,ax] at hl;have I:xh [bD u,bD b]=↑(.bl (decide (gt (bM u) (bM b)))):=LD (bM u) (bM b) (t_ u (hs u ⋯) ∅) (t_ b hb ∅);have S:(0:Int)<(r.length:Int)+1:=by lia
   have U:=LG v0 v2 (r.reverse.map bD) u b;unfold pq;rw[List.reverse_cons,cr,b9,dw];by_cases h1:gt (bM u) (bM b)
   ·simp[nv,h1,I,S,Ex]
   ·have Z:=Ey v0 v2 n r (u++b) (by simpa using h) (λt V=>hs t (by simp[V])) (λx hx=>by
     rcases dg.mp hx with hx |hx
     ·exact hs u ⋯ x hx
     ·exact hb x hx) (by rw[ax];lia)
    have Y:nv (u::r) b=nv r (u++b):=by simp[nv,h1]
    rw[Y];have a:(dI (aI (aD d_ (jh 1) [:0])) (cW (aI (d5 xh (ak (aF 1 (gF dN [:1])) (ak (aB 3) (aC)))))))
      [v0,↑(.ow (r.reverse.map bD++[bD u])),v2,!bD b]=↑(true,[v0,↑(.ow (r.reverse.map bD++[bD u])),v2,!bD b]):=by
     simp[h1,I,S,Ex]
    grind
structure Good (r:ll):Prop where
 ne:r≠[]
 beg:∀p,p <+: r->a_ p*aU r<=a_ r*aU p
theorem Ez(r:ll)(h:∀x∈r,j5 x):0<=aU r:=by have:=mU r h;lia
theorem vi(r:ll)(h:∀x∈r,j5 x)(D:r≠[]):0<aU r:=by
 have h1:=mU r h;have:0<r.length:=i3.mpr D
 lia
theorem Ah{α:Type}:∀ {u b p:List α},p <+: u++b->p <+: u\/∃t,p=u++t/\t <+: b
 | [],b,p,h=>.inr ⟨p,rfl,h⟩ |a::u,b,[],h=>.inl List.nil_prefix |a::u,b,c::p,h=>by
   rw[m8,List.cons_prefix_cons] at h;obtain⟨rfl,h⟩:=h;rcases Ah h with h | ⟨t,rfl,ht⟩
   ·grind
   ·exact .inr ⟨t,rfl,ht⟩
variable{b:Bk}
theorem Good.join{u b:ll}(I:Good u)(U:Good b)(V:∀x∈u,j5 x)(Y:∀x∈b,j5 x)(h:¬gt (bM u) (bM b)):Good (u++b):=by
 have h':a_ u*aU b<=a_ b*aU u:=Int.not_lt.mp h;have c:=vi u V I.ne;have Z:=vi b Y U.ne;refine⟨by simp[I.ne],λp D=>?_⟩;rw[vk,vj];rcases Ah D with D | ⟨t,rfl,ht⟩
 ·-- within u
  have h1:=I.beg p D;have pp:0<=aU p:=Ez p λx S=>V x (D.subset S);have j:a_ p*aU u*(aU u+aU b)<=a_ u*aU p*(aU u+aU b):=i8 h1 ∅;have k:aU p*(a_ u*aU b)<=aU p*(a_ b*aU u):=u8 h' pp;have d:a_ p*(aU u+aU b)*aU u<=(a_ u+a_ b)*aU p*aU u:=by
   lia
  exact yi d c
 ·-- u and a beginning of b
  rw[vk,vj];have h1:=U.beg t ht;obtain⟨q,rfl⟩:=ht;rw[vk,vj] at h1 h' ⊢;rw[vk] at Z;have e:0<=aU q:=Ez q λx S=>Y x (cf _ S);have f:a_ t*aU q<=a_ q*aU t:=by
   have l:a_ t*(aU t+aU q)=a_ t*aU t+a_ t*aU q:=u9 _ _ _;have m:(a_ t+a_ q)*aU t=a_ t*aU t+a_ q*aU t:=va _ _ _
   lia
  have n:a_ u*(aU t+aU q)*aU q<=(a_ t+a_ q)*aU u*aU q:=i8 h' e;have g:0<=aU u:=by lia
  have b3:aU u*(a_ t*aU q)<=aU u*(a_ q*aU t):=u8 f g;have i:a_ u*aU q*(aU t+aU q)<=a_ q*aU u*(aU t+aU q):=by
   lia
  have o:a_ u*aU q<=a_ q*aU u:=yi i Z;simp only[u9,va]
  lia
def lP:ln->Prop
 | []=>True | [_]=>True |b::u::r=>gt (bM u) (bM b)/\lP (u::r)
structure Runs (rs:ln) (s:ll):Prop where
 flat:rs.reverse.flatten=s
 good:∀r∈rs,Good r
 desc:lP rs
theorem E1:∀(S:ln) (b:ll) (s:ll),Runs S s->Good b->(∀x∈s++b,j5 x)->Runs ((nv S b).2::(nv S b).1) (s++b)
 | [],b,s,h,gb,_=>by
   have:s=[]:=by have:=h.flat;simpa using this.symm
   subst this;exact⟨by simp[nv],λr I=>by simp[nv] at I;rw[I];exact gb,trivial⟩
 |u::r,b,s,h,gb,hx=>by
   have U:s=r.reverse.flatten++u:=by rw[<-h.flat];simp
   by_cases h1:gt (bM u) (bM b)
   ·have e:nv (u::r) b=(u::r,b):=by simp[nv,h1]
    rw[e];refine⟨by simp[U],λt ht=>?_,h1,h.desc⟩;rcases b6.mp ht with rfl |ht
    ·exact gb
    ·exact h.good t ht
   ·have e:nv (u::r) b=nv r (u++b):=by simp[nv,h1]
    rw[e];have I:Runs r r.reverse.flatten:=⟨rfl,λt ht=>h.good t (bg _ ht),by
     have:=h.desc;cases r with
     |nil=>trivial |cons v r=>exact this.2⟩
    have V:Good (u++b):=(h.good u ⋯).join gb (λx D=>hx x (by rw[U];simp[D])) (λx D=>hx x (by simp[D])) h1;have:=E1 r (u++b) r.reverse.flatten I V (λx D=>hx x (by rw[U];simpa[or_assoc] using D))
    grind
def LH(x:Sk)(h:j5 x):Good [x]:=⟨by simp,λp I=>by
 have:p=[]\/p=[x]:=by
  obtain⟨t,D⟩:=I;cases p with
  |nil=>exact .inl rfl |cons y q=>simp at D;simp[D]
 rcases this with rfl |rfl
 ·simp[a_,aU]
 ·exact Int.le_refl _⟩
def LI(x:Sk):tH [sD x]=↑(bD [x]):=by
 rw[LA];simp[bD,bM,aU,a_]
theorem LJ(S:D)(I:ln)(s:ll)(x:Sk)(v2 i:k8)(h:Runs I s)(b:∀y∈s++[x],j5 y)(o:s.length<900) :
  ∃V d,Runs V (s++[x])/\tL [!S,↑(.ow (I.reverse.map bD)),!sD x,i]=↑(.nx,[!S,↑(.ow (V.reverse.map bD)),!sD x,d]):=by
 have Y:I.flatten.length=s.length:=by
  rw[<-h.flat,ju,ju,List.map_reverse,List.sum_reverse]
 have j:I.length<=s.length:=by
  rw[<-Y];have:∀(l:ln),(∀r∈l,r≠[])->l.length<=l.flatten.length:=λl=>by
   induction l with
   |nil=>intro _;simp
   |cons a l ih =>
     intro Z;have:=ih λr U=>Z r (bg _ U);have k:0<a.length:=i3.mpr (Z a bi)
     grind
  exact this I λr U=>(h.good r U).ne
 have m:=Ey ⇑S ⇑(sD x) 10000 I [x] ∅ (λr U y c=>b y (by
  rw[<-h.flat];exact em _ (jp.mpr ⟨r,by simpa using U,c⟩))) (λy c=>b y (by simp at c;simp[c])) (by rw[Y];simp;lia)
 have U:=E1 I [x] s h (LH x (b x ⋯)) b;refine⟨_,!bD (nv I [x]).2,U,?_⟩;have g:(nv I [x]).1.length<=s.length:=by
  have e:=U.flat;have:∀(l:ln),(∀r∈l,r≠[])->l.length<=l.flatten.length:=λl=>by
   induction l with
   |nil=>intro _;simp
   |cons a l ih =>
     intro Z;have:=ih λr U=>Z r (bg _ U);have k:0<a.length:=i3.mpr (Z a bi);rw[ao,eh,ax]
     lia
  have h2:=this _ λr f=>(U.good r f).ne;have p:(((nv I [x]).2::(nv I [x]).1).flatten).length=(s++[x]).length:=by
   rw[<-e,ju,ju,List.map_reverse,List.sum_reverse]
  grind
 have n:cI ((nv I [x]).1.length+1):=few ∅;unfold tL;simp only[aE,aH,d5,ak,aB,aC,ae,af,ac,ah,LI,av,aw,m,je,oj,z8,ai,List.length_reverse,n,dm];simp
theorem E2(s:ll)(Z:∀y∈s,j5 y)(c:s.length<=14):∃D,Runs D s/\zD [.lst (s.map sD)]=↑(.lst (D.reverse.map bD)):=by
 obtain⟨e',h1,D,v2,I,S,rfl⟩:=oV (i:=2) (g:=tL) sD (λp e=>∃D v2 I,Runs D p/\e=[!.lst (s.map sD),↑(.ow (D.reverse.map bD)),v2,I]) s
  [!.lst (s.map sD),↑(.ow []),none,none] ⟨[],none,none,⟨rfl,λr S=>by simp at S,trivial⟩,rfl⟩ (by
   rintro p x q e U ⟨D,v2,I,S,rfl⟩;obtain⟨V,a,Y,b⟩:=LJ (.lst (s.map sD)) D p x v2 I S (λy hy=>Z y (by
    rw[U];rcases dg.mp hy with hy |hy
    ·simp[hy]
    ·simp at hy;simp[hy])) (by
    have:s.length=p.length+(q.length+1):=by rw[U];simp
    lia)
   exact⟨_,b,V,_,_,Y,rfl⟩)
 refine⟨D,S,?_⟩;refine mf (e':=[!.lst (s.map sD),!.lst (D.reverse.map bD),v2,I]) rfl ?_;show zC [!.lst (s.map sD),none,none,none]=_;simp[zC,h1]
def mV(f:α->Int)(r:List α):fE [.lst (r.map λx=>.int (f x))]=↑↥(r.map f).sum:=by
 have:(r.map λx=>D.int (f x))=(r.map f).map D.int:=by rw[gg];rfl
 rw[this];show(dM ((r.map f).map D.int)).map _=_;rw[C4];rfl
def E3{α:Type}{ix:ic}{g:FS}(I:α->k4)(P:List α->aP->Prop)(all:List α)(S:∀x∈all,(I x).length=ix.length)(U:∀(p:List α) (x:α) (q:List α) (e:aP),all=p++x::q->P p e->∃e',g (wm ix (I x) e)=↑(.nx,e')/\P (p++[x]) e') :
  ∀(xs pre:List α) (e:aP),all=pre++xs->P pre e->∃e',gI ix g (xs.map λx=>D.tup (I x)) e=↑(.nx,e')/\P all e'
 | [],pre,e,h,hp=>⟨e,rfl,by rw[h,du];exact hp⟩ |x::xs,pre,e,h,hp=>by
   obtain⟨V,h1,p1⟩:=U pre x xs e h hp;obtain⟨Y,h2,p2⟩:=E3 I P all S U xs (pre++[x]) V (by rw[h];simp) p1;have Z:=S x (by rw[h];simp);exact⟨Y,by simp[gI,mG,Z,h1,h2],p2⟩
variable{g:FS}
def pT{ix:ic}(I:α->k4)(P:List α->aP->Prop)(all:List α)(e:aP)(S:P [] e)(U:∀x∈all,(I x).length=ix.length)(V:∀(p:List α) (x:α) (q:List α) (e:aP),all=p++x::q->P p e->∃e',g (wm ix (I x) e)=↑(.nx,e')/\P (p++[x]) e') :
  ∃e',gI ix g (all.map λx=>D.tup (I x)) e=↑(.nx,e')/\P all e':=E3 I P all U V all [] e rfl S
def E4{α:Type}(f:α->D):∀(xs:List α) (c:Nat),t6 c (xs.map f)=(xs.zipIdx c).map λp=>D.tup [↥(p.2:Nat),f p.1]
 | [],c=>rfl |x::xs,c=>by simp[t6,List.zipIdx_cons,E4 f xs (c+1)]
def E5{α β:Type}(f:α->D)(g:β->D):∀(xs:List α) (ys:List β),fG (xs.map f) (ys.map g)=(xs.zip ys).map λp=>D.tup [f p.1,g p.2]
 | [],ys=>by simp[fG] |x::xs,[]=>by simp[fG] |x::xs,y::ys=>by simp[fG,E5 f g xs ys]
theorem xu{u:Bk}(h:gt u b):¬gt b u:=λz=>by
 unfold gt at h z
 lia
variable{c:Bk}
theorem u0{n:Bk}(S:0<n.2.1)(U:0<c.2.1)(D:0<b.2.1)(h1:gt n c)(h2:¬gt b c):gt n b:=by
 have h2:b.2.2*c.2.1<=c.2.2*b.2.1:=Int.not_lt.mp h2;have V:b.2.2*c.2.1*n.2.1<=c.2.2*b.2.1*n.2.1:=i8 h2 ∅;have Y:c.2.2*n.2.1*b.2.1<n.2.2*c.2.1*b.2.1:=xi h1 D;have I:b.2.2*n.2.1*c.2.1<n.2.2*b.2.1*c.2.1:=by
  lia
 exact yh I ∅
theorem LK{n:Bk}(D:0<n.2.1)(S:0<c.2.1)(U:0<b.2.1)(h1:¬gt c n)(h2:gt c b):gt n b:=by
 have h1:c.2.2*n.2.1<=n.2.2*c.2.1:=Int.not_lt.mp h1;have V:c.2.2*n.2.1*b.2.1<=n.2.2*c.2.1*b.2.1:=i8 h1 ∅;have Y:b.2.2*c.2.1*n.2.1<c.2.2*b.2.1*n.2.1:=xi h2 D;have I:b.2.2*n.2.1*c.2.1<n.2.2*b.2.1*c.2.1:=by
  lia
 exact yh I ∅
def E6{n:Bk}(D:0<n.2.1)(I:0<c.2.1)(S:0<b.2.1)(h1:¬gt c n)(h2:¬gt b c):¬gt b n:=λz=>by
 have:=u0 (n:=b) (c:=n) (b:=c) S D I z h1;exact h2 this
abbrev Tn:=Nat×ll
abbrev lp:=List Tn
def cV(t:Tn):D:=.tup [↥(t.1:Int),↥(t.2.length:Int),↥(aU t.2),↥(a_ t.2)]
def LL(t:Tn):wy [cV t]=↑(.tup [↥(aU t.2),↥(a_ t.2)]):=by
 simp[wy,aR,Es,ki,cV,Kk,Kl]
def fR(a b:Tn):Bool:=not (decide (gt (bM b.2) (bM a.2)))
variable{b:Int}{a:Nat}
def LM{a b:Tn}:fR a b=true↔¬gt (bM b.2) (bM a.2):=by simp[fR]
theorem LN(t n:Tn)(D:iF (bM t.2))(I:iF (bM n.2)):∃z:Int,wz [.tup [↥(aU t.2),↥(a_ t.2)],.tup [↥(aU n.2),↥(a_ n.2)]]=↑↥z/\decide (0<=z)=fR t n:=by
 refine⟨_,Ev _ _ _ _ D.2 I.2,?_⟩;show decide ((0:Int)<=if a_ n.2*aU t.2<a_ t.2*aU n.2 then 1 else if a_ t.2*aU n.2<a_ n.2*aU t.2 then -1 else 0)=not (decide (a_ t.2*aU n.2<a_ n.2*aU t.2))
 lia
def hZ(ts:lp)(n:Tn):Nat:=(ts.takeWhile λt=>fR t n).length
noncomputable def mW:FT:=dI (aI (aD gG (aB 2) (jh 0))) (aI (aD iL (d5 wz (ak (d5 wy (ak (aF 0 (aB 2)) (aC))) (ak (d5 wy (ak (aB 1) (aC))) (aC)))) [:0]))
theorem E7(n:Tn)(Y:iF (bM n.2)):∀(D pre:lp) (I:Nat),D.length<I->(∀t∈D,iF (bM t.2)) ->
  pq mW pM I [!.lst ((pre++D).map cV),!cV n,!↥(pre.length:Int)]=↑(.nx,[!.lst ((pre++D).map cV),!cV n,!↥((pre.length+hZ D n:Nat):Int)])
 | [],pre,f+1,h,_=>by
   unfold pq mW;simp[hZ]
 |t::r,pre,f+1,h,hs=>by
   obtain⟨z,a,hd⟩:=LN t n (hs t ⋯) Y;have S:bG ((pre++t::r).map cV) (pre.length:Int)=↑(cV t):=mi cV ⋯;have U:(pre.length:Int)<((pre++t::r).map cV).length:=by simp;lia
   have b:mW [!(.lst ((pre++t::r).map cV)),!cV n,!↥(pre.length:Int)]=↑(fR t n,[!(.lst ((pre++t::r).map cV)),!cV n,!↥(pre.length:Int)]):=by
    unfold mW;generalize (pre++t::r).map cV=L at S U;simp[U,S,LL,a,hd]
   unfold pq;rw[b,ac];cases hg:fR t n with
   |false =>
     simp[hZ,hg]
   |true =>
     rw[am rfl];have c:pM [!(.lst ((pre++t::r).map cV)),!cV n,!↥(pre.length:Int)]=↑(.nx,[!(.lst ((pre++t::r).map cV)),!cV n,!↥((pre++[t]).length:Int)]):=by
      simp[pM]
     rw[c,ac];have Z:=E7 n Y r (pre++[t]) f (by simpa using h) λt' V=>hs t' (by simp[V]);rw[ek,List.singleton_append] at Z;rw[Z];have:(pre++[t]).length+hZ r n=pre.length+hZ (t::r) n:=by simp[hZ,hg];lia
     rw[this]
theorem LO(ts:lp)(n:Tn)(D:iF (bM n.2))(I:∀t∈ts,iF (bM t.2))(S:ts.length<9000):zF [.lst (ts.map cV),cV n]=↑↥(hZ ts n:Int):=by
 have h:=E7 n D ts [] 10000 ∅ I;refine mf (e':=[!.lst (ts.map cV),!cV n,!↥(hZ ts n:Int)]) rfl ?_;show zE [!.lst (ts.map cV),!cV n,none]=_;have h':pq mW pM 10000 [!.lst (ts.map cV),!cV n,!↥0]=_:=h;unfold mW at h';simp[zE,h']
def ins(ts:lp)(n:Tn):lp:=(ts.takeWhile λt=>fR t n)++n::ts.dropWhile λt=>fR t n
theorem LP(ts:lp)(n:Tn):(ts.map cV).take (hZ ts n)++cV n::(ts.map cV).drop (hZ ts n)=(ins ts n).map cV:=by
 have e:=kh (p:=λt=>fR t n) (l:=ts);have D:hZ ts n=(ts.takeWhile λt=>fR t n).length:=rfl;have h1:ts.take (hZ ts n)=ts.takeWhile λt=>fR t n:=by
  grind
 have h2:ts.drop (hZ ts n)=ts.dropWhile λt=>fR t n:=by
  grind
 rw[<-qg,<-qh,h1,h2];simp[ins]
def LQ(ts:lp)(n:Tn):hZ ts n<=ts.length:=(List.takeWhile_sublist _).length_le
theorem LR(v0 S Y:k8)(ts:lp)(I:Nat)(r:ll)(Z:iF (bM r))(a:∀t∈ts,iF (bM t.2))(b:ts.length<9000) :
  pN [v0,↑(.ow (ts.map cV)),!↥(I:Int),S,!↥(r.length:Int),!↥(aU r),!↥(a_ r),Y] =
   ↑(.nx,[v0,↑(.ow ((ins ts (I,r)).map cV)),!↥(I:Int),S,!↥(r.length:Int),!↥(aU r),!↥(a_ r),!(cV (I,r))]):=by
 have U:=LO ts (I,r) Z a b;have V:=LP ts (I,r);have h1:(hZ ts (I,r):Int)<=((ts.map cV).length:Nat):=by rw[ai];have:=LQ ts (I,r);lia
 have h2:cI ((ts.map cV).length+1):=few (by rw[ai];lia);have c:D.tup [↥(I:Int),↥(r.length:Int),↥(aU r),↥(a_ r)]=cV (I,r):=rfl;have d:(0:Int)<=(hZ ts (I,r):Int):=by lia
 generalize ts.map cV=L at U V h1 h2;simp[pN,sd,oP,sC,c,U,yl,xZ,d,h1,h2,iy,V]
def E8(a b:Tn):Prop:=gt (bM a.2) (bM b.2)\/(¬gt (bM b.2) (bM a.2)/\a.1<b.1)
def c_(ts:lp)(j:Nat):ln:=(ts.filter λt=>t.1==j+1).map (·.2)
structure aO (ss:ln) (ts:lp):Prop where
 lo:∀t∈ts,1<=t.1/\t.1<=ss.length
 good:∀t∈ts,Good t.2
 part:∀(j:Nat) (s:ll),ss[j]?=↑s->(c_ ts j).flatten=s
 srt:ts.Pairwise E8
 perm:(ts.map (·.2)).flatten.Perm ss.flatten
variable{ss:ln}{ts:lp}
def aO.sk(h:aO ss ts)(D:∀x∈ss.flatten,j5 x):∀t∈ts,∀x∈t.2,j5 x:=λt I x S =>
 D x (h.perm.mem_iff.mp (jp.mpr ⟨t.2,f7.mpr ⟨t,I,rfl⟩,S⟩))
def aO.len1(h:aO ss ts):∀t∈ts,t.2.length<=ss.flatten.length:=λt D=>by
 rw[<-h.perm.length_eq];exact(gc (f7.mpr ⟨t,D,rfl⟩)).length_le
theorem E9{α:Type}:∀(l:List (List α)),(∀r∈l,r≠[])->l.length<=l.flatten.length
 | [],_=>by simp |a::l,h=>by
   have:=E9 l λr D=>h r (bg _ D);have I:0<a.length:=i3.mpr (h a bi);rw[ao,eh,ax]
   lia
def aO.len(h:aO ss ts):ts.length<=ss.flatten.length:=by
 have:=E9 (ts.map (·.2)) λr D=>by
  obtain⟨t,I,rfl⟩:=f7.mp D;exact(h.good t I).ne
 rw[ai,h.perm.length_eq] at this;exact this
protected def aO.pos(h:aO ss ts)(I:∀x∈ss.flatten,j5 x):∀t∈ts,0<aU t.2:=λt D=>vi t.2 (h.sk I t D) (h.good t D).ne
def aO.sm(h:aO ss ts)(I:∀x∈ss.flatten,j5 x)(S:ss.flatten.length<=1000):∀t∈ts,iF (bM t.2):=λt D=>t_ t.2 (h.sk I t D) (d7 (h.len1 t D) S)
theorem aO.more(h:aO ss ts):aO (ss++[[]]) ts/\c_ ts ss.length=[]:=by
 have e:c_ ts ss.length=[]:=by
  unfold c_;rw[List.filter_eq_nil_iff.mpr λt I=>by have:=(h.lo t I).2;simp;lia];rfl
 refine⟨⟨λt I=>⟨(h.lo t I).1,by have:=(h.lo t I).2;simp;lia⟩,h.good,λj s D=>?_,h.srt,by simpa using h.perm⟩,e⟩;by_cases S:j<ss.length
 ·rw[ay S] at D
  exact h.part j s D
 ·have:j=ss.length:=by
   have:=(aj.mp D).1;simp at this
   lia
  subst this;simp at D;subst D;rw[e];rfl
def LS{ts:lp}{n t:Tn}:t∈ins ts n↔t∈ts\/t=n:=by
 unfold ins;have e:=kh (p:=λt=>fR t n) (l:=ts);have D:t∈ts↔t∈(ts.takeWhile λt=>fR t n)\/t∈ts.dropWhile λt=>fR t n:=by
  conv=>lhs;rw[<-e]
  exact dg
 rw[D];simp[dg];constructor
 ·rintro(h |h |h)
  ·exact .inl (.inl h)
  ·exact .inr h
  ·exact .inl (.inr h)
 ·rintro((h |h) |h)
  ·exact .inl h
  ·exact .inr (.inr h)
  ·exact .inr (.inl h)
theorem aO.ins{ss:ln}{ts:lp}{pre r:ll}{p:ln}(h:aO (ss++[pre]) ts)(Y:c_ ts ss.length=p)(n:Good r)(i:∀x∈r,j5 x)(w:∀x∈(ss++[pre]).flatten,j5 x)(hd:∀u∈p,gt (bM u) (bM r)):aO (ss++[pre++r]) (LB.ins ts (ss.length+1,r))/\c_ (LB.ins ts (ss.length+1,r)) ss.length=p++[r]:=by
 have e:=kh (p:=λt=>fR t (ss.length+1,r)) (l:=ts);have hA:∀t∈(ts.takeWhile λt=>fR t (ss.length+1,r)),fR t (ss.length+1,r)=true:=λt S=>by
  have:=List.all_takeWhile (p:=λt=>fR t (ss.length+1,r)) (l:=ts);exact f9.mp this t S
 have pr:0<aU r:=vi r i n.ne;have D:=@LS ts (ss.length+1,r);have k:∀U d,ts.dropWhile (λt=>fR t (ss.length+1,r))=U::d->gt (bM r) (bM U.2):=λU d hb=>by
  have:fR U (ss.length+1,r)=false:=by
   have:=List.head?_dropWhile_not (p:=λt=>fR t (ss.length+1,r)) ts;rw[hb] at this;simpa using this
  unfold fR at this;simpa using this
 unfold LB.ins at D ⊢;have srt:=h.srt;have pos:=h.pos w;have V:∀t∈ts,t.1=ss.length+1->gt (bM t.2) (bM r):=λt S Z=>hd t.2 (by
  rw[<-Y];exact f7.mpr ⟨t,ja.mpr ⟨S,by simp[Z]⟩,rfl⟩)
 have lo:=h.lo;have part:=h.part;have I:=h.perm;rw[<-e] at srt pos V lo part I Y;generalize (ts.takeWhile λt=>fR t (ss.length+1,r))=A at *;generalize (ts.dropWhile λt=>fR t (ss.length+1,r))=B at *;have o:∀b∈B,gt (bM r) (bM b.2):=λb hb=>by
  cases B with
  |nil=>simp at hb |cons U d =>
    have q:=k U d rfl;rcases b6.mp hb with rfl |hb'
    ·exact q
    ·have y:=(jl.mp srt).2.1
     have:=(f8.mp y).1 b hb';have C:¬gt (bM b.2) (bM U.2):=by
      rcases this with z |z
      ·exact xu z
      ·exact z.1
     exact u0 pr (pos U ⋯) (pos b (by simp[hb'])) q C
 have v:(B.filter λt=>t.1==ss.length+1)=[]:=List.filter_eq_nil_iff.mpr λt S=>by
  intro z;exact xu (o t S) (V t (by simp[S]) (by simpa using z))
 have of:c_ (A++(ss.length+1,r)::B) ss.length=p++[r]:=by
  unfold c_ at Y ⊢;rw[jz,v,du] at Y;rw[jz,List.filter_cons_of_pos ⋯,v,cr,Y];rfl
 refine⟨⟨λt S=>?_,λt S=>?_,λj s f=>?_,?_,?_⟩,of⟩
 ·rcases(D.mp S) with z |z
  ·have:=h.lo t z;simp at this ⊢;lia
  ·subst z;simp
 ·rcases(D.mp S) with z |z
  ·exact h.good t z
  ·subst z;exact n
 ·by_cases c:j<ss.length
  ·rw[ay c] at f
   have:=part j s (by rw[ay c];exact f);rw[<-this];unfold c_;rw[jz,jz,List.filter_cons_of_neg (by simp;lia)]
  ·have:j=ss.length:=by
    have:=(aj.mp f).1;simp at this
    lia
   subst this;have E:pre++r=s:=by simpa using f
   rw[of,<-E];have:=part ss.length pre ⋯;rw[show c_ (A++B) ss.length=p from Y] at this;simp[this]
 ·have m:=jl.mp srt
  refine jl.mpr ⟨m.1,f8.mpr ⟨λb hb=>.inl (o b hb),m.2.1⟩,λa g b hb=>?_⟩;rcases b6.mp hb with rfl |hb
  ·have F:=hA a g
   by_cases Z:a.1=ss.length+1
   ·exact .inl (V a (by simp[g]) Z)
   ·have:=(lo a (by simp[g])).2
    exact .inr ⟨LM.mp F,by simp at this ⊢;lia⟩
  ·exact m.2.2 a g b hb
 ·have Z:((A++(ss.length+1,r)::B).map (·.2)).flatten=(A.map (·.2)).flatten++(r++(B.map (·.2)).flatten):=by simp
  have G:(ss++[pre++r]).flatten=(ss++[pre]).flatten++r:=by simp
  rw[Z,G];have H:((A++B).map (·.2)).flatten=(A.map (·.2)).flatten++(B.map (·.2)).flatten:=by simp
  rw[H] at I;refine List.Perm.trans ?_ (I.append_right r);rw[ek];exact List.Perm.append_left _ List.perm_append_comm
def Ai:∀(D:ln),lP D->(∀r∈D,0<aU r)->D.Pairwise (λb u=>gt (bM u) (bM b))
 | [],_,_=>.nil | [b],_,_=>by simp |b::u::r,h,hp=>by
   have S:=Ai (u::r) h.2 λx I=>hp x (bg _ I);refine f8.mpr ⟨λx I=>?_,S⟩;rcases b6.mp I with rfl |hx'
   ·exact h.1
   ·have:=(f8.mp S).1 x hx'
    exact u0 (hp x (by simp[hx'])) (hp u ⋯) (hp b ⋯) this (xu h.1)
theorem LU(S:D)(ss:ln)(s:ll)(ts:lp)(n v5 v6 o:k8)(h:aO ss ts)(B:∀x∈(ss++[s]).flatten,j5 x)(v:(ss++[s]).flatten.length<=14) :
  ∃I j k l c,aO (ss++[s]) I/\tM [!S,↑(.ow (ts.map cV)),!↥((ss.length+1:Nat):Int),!.lst (s.map sD),n,v5,v6,o] =
   ↑(.nx,[!S,↑(.ow (I.map cV)),!↥((ss.length+1:Nat):Int),!.lst (s.map sD),j,k,l,c]):=by
 have d:∀x∈s,j5 x:=λx hx=>B x (by simp[hx]);have w:s.length<=14:=by simp at v;lia
 obtain⟨Z,t,E⟩:=E2 s d w;have U:=t.flat;have f:∀r∈Z.reverse,Good r:=λr h=>t.good r (List.mem_reverse.mp h);have i:∀r∈Z.reverse,∀x∈r,j5 x:=λr h x hx=>d x (by rw[<-U];exact jp.mpr ⟨r,h,hx⟩);have m:Z.reverse.Pairwise (λu b=>gt (bM u) (bM b)):=by
  rw[List.pairwise_reverse];exact Ai Z t.desc λr h=>vi r (i r (List.mem_reverse.mpr h)) (t.good r h).ne
 have C:=h.more;obtain⟨e',h1,I,j,k,l,c,y,F,rfl⟩:=pT (ix:=[4,5,6]) (g:=pN) (λr:ll=>[D.int (r.length:Int),↥(aU r),↥(a_ r)])
  (λp e=>∃I j k l c,aO (ss++[p.flatten]) I/\c_ I ss.length=p/\e=[!S,↑(.ow (I.map cV)),!↥((ss.length+1:Nat):Int),!.lst (s.map sD),j,k,l,c]) Z.reverse
  [!S,↑(.ow (ts.map cV)),!↥((ss.length+1:Nat):Int),!.lst (s.map sD),n,v5,v6,o] ⟨ts,n,v5,v6,o,C.1,C.2,rfl⟩ (λ_ _=>rfl) (by
   rintro p r q e V ⟨I,j,k,l,c,ok,of,rfl⟩;have Y:r∈Z.reverse:=by rw[V];simp
   have a:∀x∈(ss++[p.flatten]).flatten,j5 x:=λx hx=>by
    rw[gh,dg] at hx;rcases hx with hx |hx
    ·exact B x (by rw[gh];exact em _ hx)
    ·refine d x ?_
     rw[<-U,V,gh];exact em _ (by simpa using hx)
   have G:(ss++[p.flatten]).flatten.length<=14:=by
    have:p.flatten.length<=s.length:=by rw[<-U,V,gh,ax];lia
    rw[gh,ax] at v ⊢;simp only[eh,List.flatten_nil,du] at v ⊢
    lia
   have z:∀u∈p,gt (bM u) (bM r):=λu H=>by
    rw[V] at m;exact(jl.mp m).2.2 u H r ⋯
   obtain⟨J,K⟩:=ok.ins of (f r Y) (i r Y) a z;have L:r.length<=14:=by
    have:r.length<=Z.reverse.flatten.length:=(gc Y).length_le;rw[U] at this;lia
   have body:=LR ⇑S ⇑(.lst (s.map sD)) c I (ss.length+1) r (t_ r (i r Y) ∅) (ok.sm a ∅) (by have:=ok.len;lia);exact⟨_,body,_,_,_,_,_,by simpa using J,K,rfl⟩)
 refine⟨I,j,k,l,c,by rw[<-U];exact y,?_⟩;have A:gI [4,5,6] pN (Z.reverse.map bD) [!S,↑(.ow (ts.map cV)),!↥((ss.length+1:Nat):Int),!.lst (s.map sD),n,v5,v6,o]=_:=h1;simp only[tM,qa,cP,d5,ak,aB,aC,ae,af,ac,ah,E,A]
def aG(ss:ln):D:=.lst (ss.map λs=>D.lst (s.map sD))
theorem LV(ss:ln)(f:∀x∈ss.flatten,j5 x)(h:ss.flatten.length<=14):∃ts,aO ss ts/\mR [aG ss]=↑(.lst (ts.map cV)):=by
 obtain⟨e',h1,ts,v2,Y,I,v5,v6,S,ok,rfl⟩:=pT (ix:=[2,3]) (g:=tM) (λp:ll×Nat=>[D.int (p.2:Int),D.lst (p.1.map sD)])
  (λp e=>∃ts v2 Y I v5 v6 S,aO (p.map (·.1)) ts/\e=[!aG ss,↑(.ow (ts.map cV)),v2,Y,I,v5,v6,S]) (ss.zipIdx 1)
  [!aG ss,↑(.ow []),none,none,none,none,none,none] ⟨[],none,none,none,none,none,none,⟨by simp,by simp,by simp,.nil,by simp⟩,rfl⟩ (λ_ _=>rfl) (by
   rintro p x q e U ⟨ts,v2,Y,I,v5,v6,S,ok,rfl⟩;have a:ss=p.map (·.1)++x.1::q.map (·.1):=by
    have:=congrArg (List.map (·.1)) U;simpa using this
   have b:x.2=(p.map (·.1)).length+1:=by
    have:(ss.zipIdx 1)[p.length]?=↑x:=by rw[U];simp
    rw[List.getElem?_zipIdx] at this;cases hs:ss[p.length]? with
    |none=>rw[hs] at this;cases this
    |some s =>
      rw[hs] at this;cases this;simp;lia
   have V:ss.flatten=(p.map (·.1)++[x.1]).flatten++(q.map (·.1)).flatten:=by rw[a];simp
   obtain⟨c,j,k,l,m,d,Z⟩:=LU (aG ss) (p.map (·.1)) x.1 ts I v5 v6 S ok (λy i=>f y (by rw[V];exact em _ i)) (by rw[V,ax] at h;lia);rw[<-b] at Z;exact⟨_,Z,c,_,_,_,_,_,_,by simpa using d,rfl⟩)
 refine⟨ts,by simpa using ok,?_⟩;refine mf (e':=[!aG ss,!.lst (ts.map cV),v2,Y,I,v5,v6,S]) rfl ?_;show zG [!aG ss,none,none,none,none,none,none,none]=_;have Z:iY 1 [aG ss]=↑((ss.zipIdx 1).map λp=>D.tup [D.int (p.2:Int),D.lst (p.1.map sD)]):=by
  show ↑(t6 1 (ss.map λs=>D.lst (s.map sD)))=_;rw[E4]
 simp only[zG,aE,cQ,gi,aC,ac,ah,bq,ie,dm,av,aw,qa,io,ak,aB,ae,af,Z,h1,aK]
def jo(n:Nat)(ts:lp):ln:=(List.range n).map λj=>(c_ ts j).flatten
def pi(n:Nat)(ts:lp):(jo n ts).length=n:=by simp[jo]
variable{j:Nat}
def t0(h:j<n):(jo n ts)[j]?=↑((c_ ts j).flatten):=by simp[jo,h]
protected theorem aO.left(h:aO ss ts):jo ss.length ts=ss:=by
 apply fo;intro j;by_cases D:j<ss.length
 ·rw[t0 D,h.part j ss[j] (by simp[D])]
  simp[D]
 ·rw[dq (by rw[pi];lia),dq ∅]
def Aj(t:Tn)(ts:lp)(j:Nat)(h:t.1=j+1):c_ (t::ts) j=t.2::c_ ts j:=by
 unfold c_;rw[List.filter_cons_of_pos (by simp[h])];rfl
def Ak(t:Tn)(ts:lp)(j:Nat)(h:t.1≠j+1):c_ (t::ts) j=c_ ts j:=by
 unfold c_;rw[List.filter_cons_of_neg (by simp[h])]
variable{t:Tn}
theorem EA(h1:1<=t.1)(h2:t.1<=n):(jo n (t::ts))[t.1-1]?=↑(t.2++(c_ ts (t.1-1)).flatten):=by
 rw[t0 ∅,Aj t ts (t.1-1) ∅];simp
theorem LW(h1:1<=t.1)(h2:t.1<=n):jo n ts=(jo n (t::ts)).set (t.1-1) ((c_ ts (t.1-1)).flatten):=by
 apply fo;intro j;by_cases D:j<n
 ·rw[jg,t0 D,t0 D,pi]
  by_cases e:t.1-1=j
  ·subst e
   simp[D]
  ·rw[bw e,Ak t ts j ∅]
 ·rw[dq (by rw[pi];lia),dq (by rw[d6,pi];lia)]
theorem EB(h1:1<=t.1)(h2:t.1<=n):jo n (t::ts)=(jo n ts).set (t.1-1) (t.2++(c_ ts (t.1-1)).flatten):=by
 apply fo;intro j;by_cases D:j<n
 ·rw[jg,t0 D,t0 D,pi]
  by_cases e:t.1-1=j
  ·subst e
   rw[Aj t ts (t.1-1) ∅];simp[D]
  ·rw[bw e,Ak t ts j ∅]
 ·rw[dq (by rw[pi];lia),dq (by rw[d6,pi];lia)]
def Al{α:Type}:∀ {l:List (List α)} {j:Nat} {s x:List α},l[j]?=↑s->(l.set j (x++s)).flatten.Perm (x++l.flatten)
 |a::l,0,s,x,h=>by
   simp at h;subst h;simp
 |a::l,j+1,s,x,h=>by
   have D:=Al (l:=l) (j:=j) (s:=s) (x:=x) (by simpa using h);simp;refine(D.append_left a).trans ?_;rw[<-ek,<-ek];exact List.perm_append_comm.append_right _
theorem Am{n:Nat}:∀ {ts:lp},(∀t∈ts,1<=t.1/\t.1<=n)->(ts.map (·.2)).flatten.Perm (jo n ts).flatten
 | [],_=>by
   have:(jo n []).flatten=[]:=by simp[jo,c_]
   rw[this];exact .nil
 |t::ts,h=>by
   have D:=Am (n:=n) (ts:=ts) λt' I=>h t' (bg _ I);obtain⟨h1,h2⟩:=h t bi;rw[EB h1 h2,b9,eh];exact(D.append_left t.2).trans (Al (t0 ∅)).symm
def aO.tail(h:aO (jo n (t::ts)) (t::ts)):aO (jo n ts) ts:=by
 have lo:∀t'∈ts,1<=t'.1/\t'.1<=n:=λt' D=>by
  have:=h.lo t' (bg _ D);rw[pi] at this;exact this
 refine⟨λt' D=>by rw[pi];exact lo t' D,λt' D=>h.good t' (bg _ D),λj s I=>?_,(f8.mp h.srt).2,Am lo⟩;have S:=(aj.mp I).1;rw[pi] at S;rw[t0 S] at I;exact b8 I
def LX(a b:k4):cutD (a++b) none ↑(a.length:Int)=a:=by
 unfold cutD;rw[HT.sIx_none,HT.sIx_nat];simp
def EC(a b:k4):cutD (a++b) ↑(a.length:Int) none=b:=by
 unfold cutD;rw[HT.sIx_none,HT.sIx_nat];simp
variable{ar:Nat}{ds:k4}{e':aP}
def An{I:k4}(h:ds.length=ar)(S:g (ki n ds)=↑(.rf I,e')):gS n ar g ds=↑I:=by
 unfold gS;rw[am h,S]
theorem LY(ss:ln)(S:ss.length<=1000):pO [aG ss]=↑(ss.map λs=>D.lst (s.map sD)):=by
 have c:=qz (te:=aJ (io qj (ak (aB 0) (aC)))) (base:=[]) (λs:ll=>D.lst (s.map sD)) (λs:ll=>D.lst (s.map sD)) ss λs _=>⟨_,by simp;rfl⟩;have I:cI ss.length:=few ∅;refine An (e':=[!aG ss]) rfl ?_;show zK [!(.lst (ss.map λs:ll=>D.lst (s.map sD)))]=_;simp[zK,jf,I,c];rfl
theorem LZ(ss:ln)(Z:ss.length<=1000)(U:∀s∈ss,s.length<=1000):zJ [aG ss,aG ss]=↑(.bl true):=by
 obtain⟨e',h1,v2,rfl⟩:=u4 (i:=2) (g:=zH) (λk e=>∃v2,e=[!aG ss,!aG ss,v2]) (bS 0 ss.length) [!aG ss,!aG ss,none] ⟨none,rfl⟩ (by
  rintro k d e hd ⟨v2,rfl⟩;obtain⟨rfl,S⟩:=uv hd;have V:bG (ss.map λs=>D.lst (s.map sD)) (k:Int)=↑(.lst (ss[k].map sD)):=mi (λs:ll=>D.lst (s.map sD)) (by simp[S]);have Y:=L9 (λs:Sk=>[s.1,s.2.1,s.2.2]) ss[k] (U _ (ig S)) (λ_ _=>by simp);have I:yb [.lst (ss[k].map sD),.lst (ss[k].map sD)]=↑(.bl true):=Y;exact⟨[!aG ss,!aG ss,!↥(0+k)],by simp[zH,aG,V,I],_,rfl⟩)
 have hi:=qb ss.length ∅;refine mf (e':=[!aG ss,!aG ss,v2]) rfl ?_;show zI [!aG ss,!aG ss,none]=_;unfold aG at h1 ⊢;simp[zI,hi,h1]
def hT:ln->Bk
 | []=>(0,1,-1) |r::_=>bM r
def kD(b:Bk):D:=.lst [↥b.1,↥b.2.1,↥b.2.2]
variable{r:ll}{q:ic}
theorem L_{b q:ll}(h1:gt (bM r) (bM b))(h2:gt (bM r) (bM q)):gt (bM r) (bM (b++q)):=by
 have h1:a_ b*aU r<a_ r*aU b:=h1;have h2:a_ q*aU r<a_ r*aU q:=h2;show a_ (b++q)*aU r<a_ r*aU (b++q);rw[vj,vk,va,u9]
 lia
theorem ED{r:ll}(pr:0<aU r):∀(rest:ln) (q:ll),(∀b∈rest,gt (bM r) (bM b))->(∀b∈rest,Good b)->(∀b∈rest,∀x∈b,j5 x)->q <+: rest.flatten->q≠[]->gt (bM r) (bM q)
 | [],q,_,_,_,hq,ne=>by simp at hq;exact absurd hq ne |b::rest,q,hd,hg,hs,hq,ne=>by
   have I:=hg b ⋯;have S:=hs b ⋯;rcases Ah hq with hq | ⟨q',rfl,hq'⟩
   ·have sq:∀x∈q,j5 x:=λx V=>S x (hq.subset V)
    refine u0 pr (vi b S I.ne) (vi q sq ne) (hd b ⋯) ?_;have:=I.beg q hq;show ¬(a_ b*aU q<a_ q*aU b)
    lia
   ·by_cases U:q'=[]
    ·subst U
     rw[du];exact hd b ⋯
    ·exact L_ (hd b ⋯) (ED pr rest q' (λc D=>hd c (by simp[D])) (λc D=>hg c (by simp[D])) (λc D=>hs c (by simp[D])) hq' U)
variable{s:ll}
def Ma(D:k<s.length):aU (s.take (k+1))=aU (s.take k)+s[k].2.1/\a_ (s.take (k+1))=a_ (s.take k)+s[k].2.2:=by
 rw[List.take_succ_eq_append_getElem D,vk,vj];simp[aU,a_]
theorem Mb(D:∀x∈s,j5 x)(S:s.length<=14)(k:Nat):0<=aU (s.take k)/\aU (s.take k)<=840/\0<=a_ (s.take k)/\a_ (s.take k)<=1400:=by
 have:=mU (s.take k) λx I=>D x (o6 I);have h2:(s.take k).length<=14:=by rw[d8];lia
 lia
theorem Mc(S:ln)(hd:S.Pairwise λu b=>gt (bM u) (bM b))(J:∀r∈S,Good r)(j:∀x∈S.flatten,j5 x)(K:S.flatten.length<=14):pQ [.lst (S.flatten.map sD)]=↑(kD (hT S)):=by
 cases S with
 |nil=>simp[pQ,aR,tO,ki,hT,kD,qb 0 ∅,bS,cF,show fP [↥0]=↑(bS 0 0) from qb 0 ∅] |cons r rest =>
   have p:(r::rest).flatten=r++rest.flatten:=eh ..;rw[p] at j K ⊢;have t:=J r ⋯;have L:∀x∈r,j5 x:=λx v=>j x (by simp[v]);have pr:=vi r L t.ne;have R:=mU r L;have w:=(f8.mp hd).1;generalize a:r++rest.flatten=s at *;have y:r.length<=s.length:=by rw[<-a];simp
   have tk:∀k,k<=r.length->s.take k <+: r:=λk l=>by
    rw[<-a,i9 l];exact List.take_prefix _ _
   obtain⟨e',h1,T,m,rfl,U,V⟩:=u4 (i:=4) (g:=pP) (λk e=>∃(b:Bk) (m:k8),e=[!.lst (s.map sD),!kD b,!↥(aU (s.take k)),!↥(a_ (s.take k)),m] /\
     (k<r.length->b=(0,1,-1)\/∃q,q <+: r/\b=bM q)/\(r.length<=k->b=bM r)) (bS 0 s.length)
    [!.lst (s.map sD),!(kD (0,1,-1)),!↥0,!↥0,none] ⟨(0,1,-1),none,by simp[aU,a_],λ_=>.inl rfl,λh=>absurd (List.length_eq_zero_iff.mp (Nat.le_zero.mp h)) t.ne⟩ (by
     rintro k d e A ⟨b,m,rfl,U,V⟩;obtain⟨rfl,l⟩:=uv A;obtain⟨n,o⟩:=Ma l;have W:=Mb j K (k+1);have M:bG (s.map sD) (0+(k:Int))=↑(sD s[k]):=by rw[ke];exact mi sD (by simp[l])
     have D:pk (aU (s.take (k+1))):=uu ∅;have I:pk (a_ (s.take (k+1))):=uu ∅;have N:cS (sD s[k]) ↥1=↑(.int s[k].2.1):=rfl;have O:cS (sD s[k]) ↥2=↑(.int s[k].2.2):=rfl;have B:pP [!.lst (s.map sD),!kD b,!↥(aU (s.take k)),!↥(a_ (s.take k)),!↥(0+(k:Int))] =
       ↑(.nx,[!.lst (s.map sD),!(kD (if b.2.2*aU (s.take (k+1))<=a_ (s.take (k+1))*b.2.1 then bM (s.take (k+1)) else b)),!↥(aU (s.take (k+1))),!↥(a_ (s.take (k+1))),!↥(0+(k:Int))]):=by
      have f:((s.take (k+1)).length:Int)=0+(k:Int)+1:=by rw[d8];lia
      by_cases c:b.2.2*aU (s.take (k+1))<=a_ (s.take (k+1))*b.2.1
      ·rw[am c,show bM (s.take (k+1))=(0+(k:Int)+1,aU (s.take (k+1)),a_ (s.take (k+1))) by unfold bM;rw[f]]
       rw[n] at D;rw[o] at I;rw[n,o] at c ⊢;simp only[pP,kD,aE,aH,aV,aM,aD,aB,aF,bP,fC,aI,aJ,gi,ak,aC,ae,af,ac,ah,av,aw,M,N,O,iq,sG,oU,mJ I,DA D,iL,l3 c,dm,ao,bq,show(0+1+1+1<=64)=True by simp]
      ·rw[bw c]
       rw[n] at D;rw[o] at I;rw[n,o] at c ⊢;simp only[pP,kD,aE,aH,aV,aM,aD,aB,aF,bP,fC,aI,aJ,gi,ak,aC,ae,af,ac,ah,av,aw,M,N,O,iq,sG,oU,mJ I,DA D,iL,eg c,bx,ff]
     refine⟨_,B,_,_,rfl,λY=>?_,λP=>?_⟩
     ·split
      ·exact .inr ⟨_,tk (k+1) ∅,rfl⟩
      ·exact U ∅
     ·by_cases C:r.length<=k
      ·have Z:=V C
       subst Z;rw[bw];have E:s.take (k+1)=r++rest.flatten.take (k+1-r.length):=by
        rw[<-a,List.take_append,j8 ∅]
       have F:(rest.flatten.take (k+1-r.length))≠[]:=by
        intro z;have:=congrArg List.length z;rw[d8] at this;have Q:s.length=r.length+rest.flatten.length:=by rw[<-a,ax]
        simp only[bq] at this
        lia
       have Y:=ED pr rest _ w (λb Z=>J b (by simp[Z])) (λb Z x v=>j x (by rw[<-a];exact cf _ (jp.mpr ⟨b,Z,v⟩))) (List.take_prefix (k+1-r.length) rest.flatten) F;rw[E,vk,vj];have Y:a_ (rest.flatten.take (k+1-r.length))*aU r<a_ r*aU (rest.flatten.take (k+1-r.length)):=Y;show ¬(a_ r*(aU r+aU _)<=(a_ r+a_ _)*aU r);rw[u9,va]
       lia
      ·have G:k+1=r.length:=by lia
       have E:s.take (k+1)=r:=by rw[G,<-a];exact yg
       rw[E,am];rcases U ∅ with rfl | ⟨q,F,rfl⟩
       ·show -1*aU r<=a_ r*1
        lia
       ·exact t.beg q F)
   rw[x8,List.take_length] at h1;have Z:=V (by rw[x8];exact y);subst Z;have hi:fP [↥(s.length:Int)]=↑(bS 0 s.length):=qb s.length ∅;refine mf (e':=[!.lst (s.map sD),!kD (bM r),!↥(aU s),!↥(a_ s),m]) rfl ?_;show tO [!.lst (s.map sD),none,none,none,none]=_;have H:kD (0,1,-1)=.lst [↥0,↥1,↥(-1)]:=rfl;rw[H] at h1;simp[tO,hi,h1];rfl
def Ao(h:r∈c_ ts j):(j+1,r)∈ts:=by
 obtain⟨t,D,rfl⟩:=f7.mp h;obtain⟨h1,h2⟩:=ja.mp D;have:t.1=j+1:=by simpa using h2
 rw[<-this];exact h1
theorem Md(h:ts.Pairwise E8):(c_ ts j).Pairwise λu b=>gt (bM u) (bM b):=by
 unfold c_;rw[List.pairwise_map,List.pairwise_filter];refine h.imp λ{a b} hab ha hb=>?_;rcases hab with z |z
 ·exact z
 ·have h1:a.1=j+1:=by simpa using ha
  have h2:b.1=j+1:=by simpa using hb
  lia
def rj(n:Nat)(ts:lp):List Bk:=(List.range n).map λj=>hT (c_ ts j)
def Ap(h:j<n):(rj n ts)[j]?=↑(hT (c_ ts j)):=by simp[rj,h]
theorem uA(ok:aO (jo n (t::ts)) (t::ts)):hT (c_ (t::ts) (t.1-1))=bM t.2:=by
 have h1:=(ok.lo t ⋯).1;rw[Aj t ts (t.1-1) ∅];rfl
theorem EE(ok:aO (jo n (t::ts)) (t::ts))(D:∀x∈(jo n (t::ts)).flatten,j5 x)(j:Nat) :
  ¬gt (hT (c_ (t::ts) j)) (bM t.2)/\(j<t.1-1->gt (bM t.2) (hT (c_ (t::ts) j))):=by
 have pt:=ok.pos D t ⋯;have st:=mU t.2 (ok.sk D t ⋯);cases h:c_ (t::ts) j with
 |nil =>
   have g:gt (bM t.2) (0,1,-1):=by
    show -1*aU t.2<a_ t.2*1
    lia
   exact⟨xu g,λ_=>g⟩
 |cons r rest =>
   have hm:(j+1,r)∈t::ts:=Ao (by rw[h];simp);rcases b6.mp hm with e |hm
   ·subst e
    exact⟨λz=>xu z z,λz=>by simp at z⟩
   ·have I:=(f8.mp ok.srt).1 _ hm
    rcases I with z | ⟨z,z'⟩
    ·exact⟨xu z,λ_=>z⟩
    ·exact⟨z,λw=>by simp at z';lia⟩
def Me(n:Nat)(ts:lp):(jo n ts).map (λs=>D.lst (s.map sD))=(List.range n).map λj=>D.lst ((c_ ts j).flatten.map sD):=by
 unfold jo;rw[gg];rfl
def Mf(h:j<n):∀x∈(c_ ts j).flatten,x∈(jo n ts).flatten:=λx D =>
 jp.mpr ⟨_,bh (t0 (ts:=ts) h),D⟩
def Mg(h:j<n):(c_ ts j).flatten.length<=(jo n ts).flatten.length :=
 (gc (bh (t0 (ts:=ts) h))).length_le
theorem EF(ok:aO (jo n ts) ts)(D:∀x∈(jo n ts).flatten,j5 x)(I:(jo n ts).flatten.length<=14)(j:Nat):iF (hT (c_ ts j)):=by
 cases h:c_ ts j with
 |nil=>exact⟨uu (by decide),uu (by decide)⟩ |cons r rest=>exact ok.sm D ∅ (j+1,r) (Ao (by rw[h];simp))
def Mh(H:List Bk)(v0 v1 v2:k8)(k p:Nat)(bk D:Bk)(a:H[k]?=↑bk)(c:H[p]?=↑D)(sk:iF bk)(sp:iF D) :
  mS [v0,v1,v2,!.lst (H.map kD),!↥(p:Int),!↥(0+(k:Int))] =
   ↑(.nx,[v0,v1,v2,!.lst (H.map kD),!↥((if gt bk D then k else p:Nat):Int),!↥(0+(k:Int))]):=by
 rw[ke];have U:bG (H.map kD) (k:Int)=↑(kD bk):=mi kD a;have V:bG (H.map kD) (p:Int)=↑(kD D):=mi kD c;have Y:∀b:Bk,cS (kD b) ↥1=↑↥b.2.1:=λ_=>rfl;have Z:∀b:Bk,cS (kD b) ↥2=↑↥b.2.2:=λ_=>rfl;by_cases S:gt bk D
 ·have I:D.2.2*bk.2.1<bk.2.2*D.2.1:=S
  rw[am S];simp only[mS,aV,aH,aM,aI,aD,aF,bP,aB,fC,ae,af,ac,ah,av,aw,U,V,Y,Z,mJ sk.2,mJ sp.2,d_,l3 I,dm]
 ·have I:¬D.2.2*bk.2.1<bk.2.2*D.2.1:=S
  rw[bw S];simp only[mS,aV,aH,aM,aI,aD,aF,bP,aB,fC,ae,af,ac,ah,av,aw,U,V,Y,Z,mJ sk.2,mJ sp.2,d_,eg I,bx,ff]
theorem Mi(ok:aO (jo n (t::ts)) (t::ts))(U:∀x∈(jo n (t::ts)).flatten,j5 x)(c:(jo n (t::ts)).flatten.length<=14)(v0 v1 v2 v5:k8) :
  ∃I,cF 5 mS (bS 0 n) [v0,v1,v2,!(.lst ((rj n (t::ts)).map kD)),!↥0,v5] =
   ↑(.nx,[v0,v1,v2,!(.lst ((rj n (t::ts)).map kD)),!↥((t.1-1:Nat):Int),I]):=by
 have lo:=ok.lo t ⋯;rw[pi] at lo;have V:t.1-1<n:=by lia
 obtain⟨e',h1,p,I,rfl,_,S,D⟩:=u4 (i:=5) (g:=mS) (λk e=>∃(p:Nat) (v5:k8),e=[v0,v1,v2,!(.lst ((rj n (t::ts)).map kD)),!↥(p:Int),v5]/\p<n/\(k<=t.1-1->p<=t.1-1/\(p<k\/p=0))/\(t.1-1<k->p=t.1-1))
  (bS 0 n) [v0,v1,v2,!(.lst ((rj n (t::ts)).map kD)),!↥0,v5] ⟨0,v5,rfl,by lia,λ_=>⟨ie _,.inr rfl⟩,λh=>absurd h (Nat.not_lt_zero _)⟩ (by
    rintro k d e Y ⟨p,v5,rfl,hpn,S,D⟩;obtain⟨rfl,f⟩:=uv Y;have body:=Mh (rj n (t::ts)) v0 v1 v2 k p _ _ (Ap f) (Ap hpn) (EF ok U c k) (EF ok U c p);refine⟨_,body,_,_,rfl,?_,λj=>?_,λZ=>?_⟩
    ·split <;> lia
    ·have:=S ∅
     split
     ·exact⟨by lia,.inl ∅⟩
     ·exact⟨this.1,by lia⟩
    ·rcases Nat.lt_or_eq_of_le (Nat.le_of_lt_succ Z) with hlt' |heq
     ·have a:=D hlt'
      subst a;rw[uA ok,bw (EE ok U k).1]
     ·have:=S ∅
      subst heq;rw[uA ok];by_cases b:p=t.1-1
      ·subst b
       rw[uA ok,bw (λz=>xu z z)]
      ·rw[am ((EE ok U p).2 ∅)])
 rw[x8] at D;have a:=D V;subst a;exact⟨I,h1⟩
noncomputable def uB:FT:=aI (aD d_ (d5 fE (ak (aJ (jf (lE 1) [] b_ (jh 0))) (aC))) [:0])
theorem Mj(ok:aO (jo n (t::ts)) (t::ts))(g:∀x∈(jo n (t::ts)).flatten,j5 x)(h:(jo n (t::ts)).flatten.length<=14)(E:n<=1000)(v0 i k v5:k8)(M:k4)(F:M.length<=1000) :
  ∃l m Z,tP [v0,↑(.ow ((jo n (t::ts)).map λs=>D.lst (s.map sD))),↑(.ow M),i,k,v5]=↑(.nx,[v0,↑(.ow ((jo n ts).map λs=>D.lst (s.map sD))),↑(.ow (M++[cV t])),l,m,Z]):=by
 have lo:=ok.lo t ⋯;rw[pi] at lo;have c:=qz (te:=d5 pQ (ak (aB 0) (aC))) (base:=[]) (λj:Nat=>D.lst ((c_ (t::ts) j).flatten.map sD)) (λj:Nat=>kD (hT (c_ (t::ts) j))) (List.range n) (λj Y=>by
  have Y:j<n:=gq.mp Y;have o:=Mc (c_ (t::ts) j) (Md ok.srt) (λr p=>ok.good _ (Ao p)) (λx q=>g x (Mf Y x q)) (d7 (Mg Y) h);refine⟨[!(.lst ((c_ (t::ts) j).flatten.map sD))],?_⟩;simp only[d5,ak,aB,aC,ae,ac,o,ah])
 have u:(List.range n).map (λj:Nat=>kD (hT (c_ (t::ts) j)))=(rj n (t::ts)).map kD:=by unfold rj;rw[gg];rfl
 rw[u,<-Me] at c;obtain⟨Z,v⟩:=Mi ok g h v0 ↑(.ow ((jo n (t::ts)).map λs=>D.lst (s.map sD))) ↑(.ow M) v5;have a:bG ((rj n (t::ts)).map kD) ((t.1-1:Nat):Int)=↑(kD (bM t.2)):=by
  rw[<-uA ok];exact mi kD (Ap ∅)
 have U:=EA (ts:=ts) lo.1 lo.2;have V:=LW (ts:=ts) lo.1 lo.2;have b:bG ((jo n (t::ts)).map λs=>D.lst (s.map sD)) ((t.1-1:Nat):Int)=↑(.lst ((t.2++(c_ ts (t.1-1)).flatten).map sD)):=mi (λs:ll=>D.lst (s.map sD)) U;have I:=EC (t.2.map sD) ((c_ ts (t.1-1)).flatten.map sD);rw[<-cr,ai] at I;have d:eI ((jo n (t::ts)).map λs=>D.lst (s.map sD)).length ((t.1-1:Nat):Int)=↑(t.1-1):=by
  rw[wp ∅ (by rw[ai,pi];lia)];congr 1
 have S:((jo n (t::ts)).map λs=>D.lst (s.map sD)).set (t.1-1) (.lst ((c_ ts (t.1-1)).flatten.map sD))=(jo n ts).map λs=>D.lst (s.map sD):=by
  rw[V,jq]
 have w:cI ((jo n (t::ts)).map λs=>D.lst (s.map sD)).length:=few (by rw[ai,pi];lia);have e:cI (M.length+1):=few ∅;have hi:fP [↥(((rj n (t::ts)).map kD).length:Int)]=↑(bS 0 n):=by
  rw[ai,show(rj n (t::ts)).length=n by simp[rj]];exact qb n ∅
 have y:((t.1-1:Nat):Int)+1=(t.1:Int):=by lia
 generalize ((rj n (t::ts)).map kD)=HL at *;generalize z:((t.1-1:Nat):Int)=pp at *;have A:cS (kD (bM t.2)) ↥0=↑↥(t.2.length:Int):=rfl;have B:cS (kD (bM t.2)) ↥1=↑↥(aU t.2):=rfl;have C:cS (kD (bM t.2)) ↥2=↑↥(a_ t.2):=rfl;have f:D.tup [↥(t.1:Int),↥(t.2.length:Int),↥(aU t.2),↥(a_ t.2)]=cV t:=rfl;refine⟨⇑(.lst HL),!↥pp,Z,?_⟩;simp only[tP,aE,aH,bY,je,yp,rX,aJ,jf,lE,io,ak,aC,jh,fC,oj,z8,aW,aD,iq,aF,bP,aB,fI,fY,fF,ae,af,ac,ah,av,aw,dw,w,e,dm,c,hi,v,a,A,B,C,y,f,b,I,d,S,ao,bq,show(0+1+1+1+1<=64)=True by simp]
theorem EG{n:Nat}(r:n<=1000)(v0:k8):∀(ts:lp) (I:Nat) (V Y v5:k8) (M:k4),ts.length<I->M.length+ts.length<=1000->aO (jo n ts) ts->(∀x∈(jo n ts).flatten,j5 x)->(jo n ts).flatten.length<=14 ->
  ∃b d g i,pq uB tP I [v0,↑(.ow ((jo n ts).map λs=>D.lst (s.map sD))),↑(.ow M),V,Y,v5]=↑(.nx,[v0,b,↑(.ow (M++ts.map cV)),d,g,i])
 |_,0,_,_,_,_,h,_,_,_,_=>by lia |ts,f+1,V,Y,v5,M,h,hM,ok,hg,hl=>by
   have c:=qz (te:=jh 0) (base:=[]) (λs:ll=>D.lst (s.map sD)) (λs:ll=>D.int (s.length:Int)) (jo n ts) λs _=>⟨_,by simp;rfl⟩;have u:=mV (λs:ll=>(s.length:Int)) (jo n ts);have w:cI ((jo n ts).map λs=>D.lst (s.map sD)).length:=few (by rw[ai,pi];lia);have Z:((jo n ts).map λs:ll=>(s.length:Int)).sum=((ts.map (·.2)).flatten.length:Int):=by
    have e:∀l:ln,(l.map λs:ll=>(s.length:Int)).sum=(l.flatten.length:Int):=λl=>by
     induction l with
     |nil=>rfl |cons a l j=>rw[b9,gn,j,eh,ax];lia
    rw[e,ok.perm.length_eq]
   rw[Z] at u;have y:uB [v0,↑(.ow ((jo n ts).map λs=>D.lst (s.map sD))),↑(.ow M),V,Y,v5]=↑(decide (0<((ts.map (·.2)).flatten.length:Int)),[v0,↑(.ow ((jo n ts).map λs=>D.lst (s.map sD))),↑(.ow M),V,Y,v5]):=by
    unfold uB;generalize ((jo n ts).map λs=>D.lst (s.map sD))=L at *;simp[jf,lE,w,c,u]
   unfold pq;rw[y,ac];dsimp only;cases ts with
   |nil =>
     rw[bw ⋯];exact⟨↑(.ow ((jo n []).map λs=>D.lst (s.map sD))),V,Y,v5,by rw[dw,du]⟩
   |cons t ts =>
     have v:0<t.2.length:=i3.mpr (ok.good t ⋯).ne;rw[am (by simp[iw];lia)];obtain⟨d,g,i,U⟩:=Mj ok hg hl r v0 V Y v5 M (by simp at hM;lia);rw[U,ac];dsimp only;have k:=ok.tail;have lo:=ok.lo t ⋯;rw[pi] at lo;have S:(t.2++(jo n ts).flatten).Perm (jo n (t::ts)).flatten:=by
      rw[EB lo.1 lo.2];exact(Al (t0 ∅)).symm
     have m:=S.length_eq;rw[ax] at m;obtain⟨b,o,p,q,j⟩:=EG r v0 ts f d g i (M++[cV t]) (by simp at h;lia) (by simp at hM ⊢;lia) k (λx z=>hg x (S.mem_iff.mp (cf _ z))) ∅;exact⟨b,o,p,q,by rw[j];simp⟩
theorem Ml(ok:aO ss ts)(S:∀x∈ss.flatten,j5 x)(U:ss.flatten.length<=14)(e:ss.length<=900):tQ [aG ss]=↑(.lst (ts.map cV)):=by
 have V:=ok.len;have I:=ok.left;have c:=qz (te:=aJ (io qj (ak (aB 0) (aC)))) (base:=[]) (λs:ll=>D.lst (s.map sD)) (λs:ll=>D.lst (s.map sD)) ss λs _=>⟨_,by simp;rfl⟩;have Y:cI (ss.map λs=>D.lst (s.map sD)).length:=few (by rw[ai];lia);obtain⟨Z,a,b,d,h⟩:=EG (n:=ss.length) ∅ ⇑(aG ss) ts 10000 none none none [] ∅ (by simp;lia) (by rw[I];exact ok) (by rw[I];exact S) (by rw[I];exact U);rw[I,lj] at h;refine mf (e':=[!aG ss,Z,!.lst (ts.map cV),a,b,d]) rfl ?_;show zM [!(.lst (ss.map λs=>D.lst (s.map sD))),none,none,none,none,none]=_;unfold uB aG at h;unfold aG;generalize (ss.map λs=>D.lst (s.map sD))=L at *;simp[zM,jf,Y,c,h]
def og(ts:lp):ic:=(ts.map λt=>List.replicate t.2.length t.1).flatten
def iD(ns:ic):k4:=ns.map λn:Nat=>D.int (n:Int)
def pU(a b:lp):og (a++b)=og a++og b:=by simp[og]
def Aq(t:Tn):og [t]=List.replicate t.2.length t.1:=by simp[og]
def Mm(ts:lp):(og ts).length=(ts.map (·.2)).flatten.length:=by
 induction ts with
 |nil=>rfl |cons t ts ih =>
   rw[show t::ts=[t]++ts from rfl,pU,Aq,ax,fy,ih];simp
def EH(d:D)(k:Nat):(List.replicate k [d]).flatten=List.replicate k d:=by simp_all
def EI(a b:ic):iD (a++b)=iD a++iD b:=by simp[iD]
def Mn(k a:Nat):iD (List.replicate k a)=List.replicate k ↥(a:Int):=by simp[iD]
def EJ(a:ic):(iD a).length=a.length:=by simp[iD]
theorem Ar(k:Nat)(h:k<=1000000):iW (-(2 ^ 62)) (2 ^ 62) (k:Int):=⟨by lia,by lia⟩
theorem Mp(ok:aO ss ts)(V:mR [aG ss]=↑(.lst (ts.map cV)))(a:ss.flatten.length<=14):ya [aG ss]=↑(iD (og ts)):=by
 have I:(og ts).length<=14:=by rw[Mm,ok.perm.length_eq];exact a
 obtain⟨e',h1,v2,S,U,v5,rfl⟩:=pT (ix:=[2,3,4,5]) (g:=tN) (λt:Tn=>[D.int (t.1:Int),↥(t.2.length:Int),↥(aU t.2),↥(a_ t.2)]) (λp e=>∃v2 S U v5,e=[!aG ss,↑(.ow (iD (og p))),v2,S,U,v5]) ts
  [!aG ss,↑(.ow []),none,none,none,none] ⟨none,none,none,none,rfl⟩ (λ_ _=>rfl) (by
   rintro p t q e Y ⟨v2,S,U,v5,rfl⟩;have b:(og p).length+t.2.length<=14:=by
    rw[Y,pU,show t::q=[t]++q from rfl,pU,Aq] at I;simp at I
    lia
   have c:cI (1*t.2.length):=few ∅;have f2:cI ((iD (og p)).length+(List.replicate t.2.length (D.int (t.1:Int))).length):=few (by rw[EJ,fy];lia);have d:=Ar t.2.length ∅;have f:iD (og p)++List.replicate t.2.length (D.int (t.1:Int))=iD (og (p++[t])):=by rw[pU,Aq,EI,Mn]
   refine⟨[!aG ss,↑(.ow (iD (og (p++[t])))),!↥(t.1:Int),!↥(t.2.length:Int),!↥(aU t.2),!↥(a_ t.2)],?_,_,_,_,_,rfl⟩;rw[<-f];simp only[wm,tN,je,sv,yC,iO,gi,ak,aB,aC,ae,af,ac,ah,av,aw,ao,bq,show(0+1<=64)=True by simp,dm,iy,ni,c,d,and_self,EH,f2])
 refine An (e':=[!aG ss,↑(.ow (iD (og ts))),v2,S,U,v5]) rfl ?_;show zL [!aG ss,none,none,none,none,none]=_;have Z:gI [2,3,4,5] tN (ts.map cV) [!aG ss,↑(.ow []),none,none,none,none]=_:=h1;simp[zL,V,Z]
structure cT (ss:ln) (os:ic):Prop where
 lo:∀a∈os,1<=a/\a<=ss.length
 cnt:∀(j:Nat) (s:ll),ss[j]?=↑s->os.count (j+1)=s.length
theorem EK(m:Nat):∀n:Nat,((List.range n).map λj=>if j=m then 1 else 0).sum=if m<n then 1 else 0
 |0=>by simp |n+1=>by
   rw[lh,cr,lg,EK m n];simp only[b9,dw,gn,List.sum_nil];by_cases h1:m<n
   ·rw[am h1,bw ∅,am ∅];rfl
   ·rw[bw h1]
    by_cases h2:n=m
    ·rw[am h2,am ∅];rfl
    ·rw[bw h2,bw ∅];rfl
theorem EM{α:Type}(f g:α->Nat):∀l:List α,(l.map λx=>f x+g x).sum=(l.map f).sum+(l.map g).sum
 | []=>rfl |x::l=>by
   simp[gn,EM f g l]
   lia
theorem uC(n:Nat):∀(p:ic),(∀a∈p,1<=a/\a<=n)->((List.range n).map λj=>p.count (j+1)).sum=p.length
 | [],_=>by
   have:∀l:ic,(l.map λj=>([]:ic).count (j+1)).sum=0:=λl=>by
    induction l with
    |nil=>rfl |cons a l D=>rw[b9,gn,D];rfl
   rw[this];rfl
 |a::p,h=>by
   have D:=uC n p λb S=>h b (bg _ S);have U:=h a bi;have e:(λj=>(a::p).count (j+1))=λj=>p.count (j+1)+if j=a-1 then 1 else 0:=by
    funext j;rw[List.count_cons];by_cases I:j=a-1
    ·rw[am I,am (by simp;lia)]
    ·rw[bw I,bw (by simp;lia)]
   rw[e,EM,D,EK,am ∅,ao]
theorem EN(f g:Nat->Nat):∀n:Nat,(∀j,j<n->f j<=g j)->((List.range n).map f).sum=((List.range n).map g).sum->∀j,j<n->f j=g j
 |n+1,hle,hs,j,D=>by
   have S:((List.range n).map f).sum<=((List.range n).map g).sum:=by
    have:∀l:ic,(∀j∈l,f j<=g j)->(l.map f).sum<=(l.map g).sum:=λl=>by
     induction l with
     |nil=>intro _;simp
     |cons a l ih =>
       intro h;have h1:=h a ⋯;have h2:=ih λj D=>h j (by simp[D]);simp[gn]
       lia
    exact this _ λj D=>hle j (by have:=gq.mp D;lia)
   rw[lh,cr,cr,lg,lg] at hs;simp[gn,List.sum_nil] at hs;have U:=hle n ∅;by_cases I:j=n
   ·subst I;lia
   ·exact EN f g n (λj D=>hle j ∅) ∅ j ∅
def As(ss:ln):((List.range ss.length).map λj=>(ss.getD j []).length).sum=ss.flatten.length:=by
 have:(List.range ss.length).map (λj=>(ss.getD j []).length)=ss.map List.length:=by
  apply fo;intro i;by_cases h:i<ss.length
  ·simp[h]
  ·simp[h]
 rw[this,ju]
variable{os:ic}
def cT.len(h:cT ss os):os.length=ss.flatten.length:=by
 rw[<-uC ss.length os h.lo,<-As];congr 1;apply jt;intro j D;have D:j<ss.length:=gq.mp D;rw[h.cnt j ss[j] (by simp[D])];simp[D]
def mX(ss:ln)(a c:Nat):Sk:=(ss.getD (a-1) []).getD c (0,0,0)
def tk(ss:ln)(os:ic):ll:=(List.range os.length).map λi=>mX ss (os.getD i 0) ((os.take i).count (os.getD i 0))
theorem Mq(ss:ln)(p:ic)(a:Nat):tk ss (p++[a])=tk ss p++[mX ss a (p.count a)]:=by
 unfold tk;rw[ax,jd,lh,cr];congr 1
 ·apply jt
  intro i hi;have hi:i<p.length:=gq.mp hi;have D:(p++[a]).getD i 0=p.getD i 0:=by
   rw[cj,cj,ay hi]
  rw[D,i9 ∅]
 ·have D:(p++[a]).getD p.length 0=a:=by simp
  simp only[b9,dw];rw[D,yg]
def Mr(ss:ln)(os:ic):(tk ss os).length=os.length:=by simp[tk]
theorem cT.at{ss:ln}{p q:ic}{a:Nat}(h:cT ss (p++a::q)):∃s,ss[a-1]?=↑s/\p.count a<s.length/\s[p.count a]?=↑(mX ss a (p.count a))/\1<=a/\a<=ss.length:=by
 obtain⟨h1,h2⟩:=h.lo a ⋯;have D:a-1<ss.length:=by lia
 have S:=h.cnt (a-1) ss[a-1] (by simp[D]);rw[show a-1+1=a by lia,ml,o7] at S;have I:p.count a<ss[a-1].length:=by lia
 refine⟨ss[a-1],by simp[D],I,?_,h1,h2⟩;unfold mX;simp[D,I]
def bE(n:Nat)(f:Nat->Int):k4:=(List.range n).map λj=>D.int (f j)
def mY(n:Nat)(f:Nat->Int):(bE n f).length=n:=by simp[bE]
def pV(n:Nat)(f:Nat->Int)(j:Nat)(h:j<n):bG (bE n f) (j:Int)=↑↥(f j):=mi (λj:Nat=>D.int (f j)) (by simp[h])
def uD(n:Nat)(f g:Nat->Int)(j:Nat)(h:∀i,i<n->i≠j->g i=f i):(bE n f).set j ↥(g j)=bE n g:=by
 apply fo;intro i;unfold bE;rw[jg];by_cases hi:i<n
 ·by_cases e:j=i
  ·subst e;simp[hi]
  ·rw[bw e]
   simp[hi,h i hi (Ne.symm e)]
 ·by_cases e:j=i
  ·subst e;simp[hi]
  ·rw[bw e];simp[hi]
def Au(n:Nat)(f:Nat->Int)(j:Nat)(h:j<n):(bE n f)[j]?=↑↥(f j):=by simp[bE,h]
def Av(h:ds.length=ar)(D:g (ki n ds)=↑(.nx,e')):aR n ar g ds=some .non:=by
 unfold aR;rw[am h,D]
theorem Ms(U:1<=a)(V:a<=ss.length):zO [aG ss,↥(a:Int)]=some .non:=by
 have I:decide ((a:Int)<1)=false:=by simp;lia
 have S:decide (((ss.map λs=>D.lst (s.map sD)).length:Int)<(a:Int))=false:=by rw[ai];simp;lia
 refine Av (e':=[!aG ss,!↥(a:Int)]) rfl ?_;show zN [!aG ss,!↥(a:Int)]=_;unfold aG;generalize (ss.map λs=>D.lst (s.map sD))=L at *;simp only[zN,aV,aM,gL,aI,aD,aB,fC,jh,gG,d_,ae,af,ac,ah,av,aw,I,S,bx,ff]
def aQ(ss:ln)(p:ic)(j:Nat):Int:=((ss.getD j []).length:Int)-(p.count (j+1):Int)
def Mt(ss:ln):(ss.map λs=>D.int (s.length:Int))=bE ss.length (aQ ss []):=by
 apply fo;intro i;unfold bE aQ;by_cases h:i<ss.length
 ·simp[h]
 ·simp[h]
def Aw(ss:ln):rg b_ (jh 0) [] (ss.map λs=>D.lst (s.map sD))=↑(bE ss.length (aQ ss [])):=by
 rw[<-Mt];exact qz (te:=jh 0) (base:=[]) (λs:ll=>D.lst (s.map sD)) (λs:ll=>D.int (s.length:Int)) ss λs _=>⟨_,by simp;rfl⟩
def uE(p:ic)(a b:Nat):(p++[a]).count b=p.count b+if a=b then 1 else 0:=by
 by_cases h:a=b
 ·simp[h]
 ·simp[h]
theorem Ax(ss:ln)(p:ic)(a:Nat)(h1:1<=a):aQ ss (p++[a]) (a-1)=aQ ss p (a-1)-1/\∀i,i≠a-1->aQ ss (p++[a]) i=aQ ss p i:=by
 unfold aQ;refine⟨?_,λi hi=>?_⟩
 ·rw[uE,am ∅];lia
 ·rw[uE,bw ∅];lia
def Mu(h:cT ss os)(j:Nat)(D:j<ss.length):aQ ss os j=0:=by
 unfold aQ;rw[h.cnt j ss[j] (by simp[D])];simp[D]
variable{p:ic}
theorem Mw(h:cT ss (p++a::q)):0<aQ ss p (a-1):=by
 obtain⟨s,D,I,_,h1,h2⟩:=h.at;unfold aQ;rw[show a-1+1=a by lia,cj,D];simp
 lia
def Ay(n:Nat)(f:Nat->Int):dM (bE n f)=↑((List.range n).map f):=by
 have:bE n f=((List.range n).map f).map D.int:=by unfold bE;rw[gg];rfl
 rw[this,C4]
theorem EO(f:Nat->Int):∀n:Nat,(∀j,j<n->f j=0)->((List.range n).map f).sum=0
 |0,_=>rfl |n+1,h=>by
   rw[lh,cr,lg,EO f n λj D=>h j ∅];simp[h n ∅]
theorem Mx(h:cT ss os)(v:ss.length<=1000):zQ [aG ss,.lst (iD os)]=some .non:=by
 obtain⟨e',h1,Y,rfl⟩:=oV (i:=3) (g:=tR) (λa:Nat=>D.int (a:Int)) (λp e=>∃Y,e=[!aG ss,!.lst (iD os),↑(.ow (bE ss.length (aQ ss p))),Y]) os
  [!aG ss,!.lst (iD os),↑(.ow (bE ss.length (aQ ss []))),none] ⟨none,rfl⟩ (by
   rintro p a q e Z ⟨Y,rfl⟩;have f:cT ss (p++a::q):=by rw[<-Z];exact h
   obtain⟨s,w,k,_,l,x⟩:=f.at;have y:=Mw f;obtain⟨m,n⟩:=Ax ss p a l;have b:(a:Int)-1=((a-1:Nat):Int):=by lia
   have c:=pV ss.length (aQ ss p) (a-1) ∅;have U:=Au ss.length (aQ ss p) (a-1) ∅;have I:=uD ss.length (aQ ss p) (aQ ss (p++[a])) (a-1) (λi _ hi=>n i hi);rw[m] at I;have o:decide (aQ ss p (a-1)=0)=false:=by simp;lia
   have d:a-1<(bE ss.length (aQ ss p)).length:=by rw[mY];lia
   have r:(0:Int)<=((a-1:Nat):Int):=by lia
   refine⟨[!aG ss,!.lst (iD os),↑(.ow (bE ss.length (aQ ss (p++[a])))),!↥(a:Int)],?_,_,rfl⟩;rw[<-I];generalize bE ss.length (aQ ss p)=L at *;simp only[tR,aE,aV,aM,uj,oN,aI,aD,aF,bP,aB,fC,aZ,bU,ae,af,ac,ah,av,aw,b,c,o,bx,ff,r,dm,iy,U,d])
 have b:((List.range ss.length).map (aQ ss os)).sum=0:=EO _ _ λj t=>Mu h j t;have S:=Ay ss.length (aQ ss os);have k:=Aw ss;have u:cI (ss.map λs=>D.lst (s.map sD)).length:=few (by rw[ai];lia);refine Av (e':=[!aG ss,!.lst (iD os),↑(.ow (bE ss.length (aQ ss os))),Y]) rfl ?_;show zP [!aG ss,!.lst (iD os),none,none]=_;have V:cF 3 tR (iD os) [!aG ss,!.lst (iD os),↑(.ow (bE ss.length (aQ ss []))),none]=_:=h1;unfold aG at V ⊢;generalize iD os=O at *;generalize (ss.map λs=>D.lst (s.map sD))=L at *;simp[zP,jf,we,u,k,V,S,b,Int.lt_irrefl]
def My(h:cT ss os)(U:ss.length<=1000):zS [aG ss,.lst (iD os)]=some .non:=by
 obtain⟨e',h1,v2,rfl⟩:=oV (i:=2) (g:=tS) (λa:Nat=>D.int (a:Int)) (λp e=>∃v2,e=[!aG ss,!.lst (iD os),v2]) os
  [!aG ss,!.lst (iD os),none] ⟨none,rfl⟩ (by
   rintro p a q e I ⟨v2,rfl⟩;obtain⟨V,Y⟩:=h.lo a (by rw[I];simp);have Z:=Ms (ss:=ss) V Y;simp[tS,Z])
 have h2:=Mx h U;refine Av (e':=[!aG ss,!.lst (iD os),v2]) rfl ?_;show zR [!aG ss,!.lst (iD os),none]=_;have S:cF 2 tS (iD os) [!aG ss,!.lst (iD os),none]=_:=h1;generalize iD os=O at *;simp[zR,S,h2]
def dL(p:ic)(j:Nat):Int:=(p.count (j+1):Int)
theorem Mz(p:ic)(a:Nat)(h1:1<=a):dL (p++[a]) (a-1)=dL p (a-1)+1/\∀i,i≠a-1->dL (p++[a]) i=dL p i:=by
 unfold dL;refine⟨?_,λi hi=>?_⟩
 ·rw[uE,am ∅];lia
 ·rw[uE,bw ∅];lia
def M0(ss:ln):rg b_ [:0] [] (ss.map λs=>D.lst (s.map sD))=↑(bE ss.length (dL [])):=by
 rw[qz (te:=fC ↥0) (base:=[]) (λs:ll=>D.lst (s.map sD)) (λs:ll=>D.int 0) ss λs _=>⟨_,by simp;rfl⟩];congr 1;apply fo;intro i;unfold bE dL;by_cases h:i<ss.length
 ·simp[h]
 ·simp[h]
theorem M3(U:cT ss (p++a::q)) :
  (a:Int)-1=((a-1:Nat):Int)/\bG (bE ss.length (dL p)) ((a-1:Nat):Int)=↑↥(p.count a:Int)/\(bE ss.length (dL p))[a-1]?=↑↥(p.count a:Int) /\
    (bE ss.length (dL p)).set (a-1) ↥((p.count a:Int)+1)=bE ss.length (dL (p++[a]))/\a-1<(bE ss.length (dL p)).length/\eI (bE ss.length (dL p)).length ((a-1:Nat):Int)=↑(a-1) /\
    ∃s:ll,bG (ss.map λs=>D.lst (s.map sD)) ((a-1:Nat):Int)=↑(.lst (s.map sD))/\bG (s.map sD) (p.count a:Int)=↑(sD (mX ss a (p.count a))):=by
 obtain⟨s,V,d,Y,Z,e⟩:=U.at;obtain⟨b,c⟩:=Mz p a Z;have S:dL p (a-1)=(p.count a:Int):=by unfold dL;rw[show a-1+1=a by lia]
 have I:=uD ss.length (dL p) (dL (p++[a])) (a-1) (λi _ hi=>c i hi);rw[b,S] at I;refine⟨by lia,?_,?_,I,by rw[mY];lia,?_,s,mi (λs:ll=>D.lst (s.map sD)) V,mi sD Y⟩
 ·rw[pV _ _ _ ∅,S]
 ·rw[Au _ _ _ ∅,S]
 ·rw[wp ∅ (by rw[mY];lia)]
  congr 1
theorem M4(h:cT ss os)(m:ss.length<=1000)(l:os.length<=1000):zr [aG ss,.lst (iD os)]=↑(.lst ((tk ss os).map sD)):=by
 obtain⟨e',h1,b,rfl⟩:=oV (i:=4) (g:=tT) (λa:Nat=>D.int (a:Int)) (λp e=>∃b,e=[!aG ss,!.lst (iD os),↑(.ow (bE ss.length (dL p))),↑(.ow ((tk ss p).map sD)),b]) os
  [!aG ss,!.lst (iD os),↑(.ow (bE ss.length (dL []))),↑(.ow []),none] ⟨none,rfl⟩ (by
   rintro p a q e I ⟨b,rfl⟩;have n:cT ss (p++a::q):=by rw[<-I];exact h
   obtain⟨o,c,U,V,d,r,s,f,j⟩:=M3 n;have k:cI (((tk ss p).map sD).length+1):=few (by rw[ai,Mr];rw[I] at l;simp at l;lia);have t:(0:Int)<=((a-1:Nat):Int):=by lia
   have u:cS (.lst (s.map sD)) ↥(p.count a:Int)=↑(sD (mX ss a (p.count a))):=j;refine⟨[!aG ss,!.lst (iD os),↑(.ow (bE ss.length (dL (p++[a])))),↑(.ow ((tk ss (p++[a])).map sD)),!↥(a:Int)],?_,_,rfl⟩;rw[<-V,Mq,cr,b9,dw];unfold aG;generalize (tk ss p).map sD=M at *;generalize s.map sD=S at *;simp only[tT,aE,je,uj,oN,oj,z8,aD,aF,bP,aB,fC,aZ,iq,ae,af,ac,ah,av,aw,o,c,f,u,k,t,dm,iy,U,d])
 have Y:=My h m;have v:=M0 ss;have k:cI (ss.map λs=>D.lst (s.map sD)).length:=few (by rw[ai];lia);refine mf (e':=[!aG ss,!.lst (iD os),↑(.ow (bE ss.length (dL os))),!.lst ((tk ss os).map sD),b]) rfl ?_;show zT [!aG ss,!.lst (iD os),none,none,none]=_;have Z:cF 4 tT (iD os) [!aG ss,!.lst (iD os),↑(.ow (bE ss.length (dL []))),↑(.ow []),none]=_:=h1;unfold aG at Z Y ⊢;generalize (ss.map λs=>D.lst (s.map sD))=L at *;simp[zT,jf,Y,k,v,Z]
def tf(h:Int):List (Nat×Sk)->List ik
 | []=>[] |x::r=>[x.2.1,(x.1:Int),h,h+x.2.2.1]::tf (h+x.2.2.1) r
def M5(x:Sk)(r:ll):aU (x::r)=x.2.1+aU r:=rfl
def EQ(x:Nat×Sk):∀(p:List (Nat×Sk)) (h:Int),tf h (p++[x])=tf h p++[[x.2.1,(x.1:Int),h+aU (p.map (·.2)),h+aU (p.map (·.2))+x.2.2.1]]
 | [],h=>by simp[tf,aU] |y::p,h=>by
   rw[m8,tf,tf,EQ x p,b9,M5];rw[<-Int.add_assoc];rfl
def ER(x:Sk):rq [sD x]=↑↥x.2.1:=rfl
def ES(x:Sk):vv [sD x]=↑↥x.2.2:=rfl
def M6(x:Sk):oq [sD x]=↑↥x.1:=rfl
def ET:∀(p:List (Nat×Sk)) (h:Int),(tf h p).length=p.length
 | [],_=>rfl |x::p,h=>by rw[tf,ao,ao,ET p]
theorem OG(h:cT ss os)(V:ss.length<=1000)(d:os.length<=900):Et [aG ss,.lst (iD os)]=↑(.lst ((tf 0 (os.zip (tk ss os))).map iT)):=by
 have Y:=M4 h V ∅;obtain⟨e',h1,I,S,v5,v6,rfl,rfl⟩:=pT (ix:=[4,5]) (g:=zU) (λx:Nat×Sk=>[D.int (x.1:Int),sD x.2])
  (λp e=>∃I S v5 v6,e=[!aG ss,!.lst (iD os),↑(.ow ((tf 0 p).map iT)),I,S,v5,v6]/\I=⇑↥(aU (p.map (·.2)))) (os.zip (tk ss os))
  [!aG ss,!.lst (iD os),↑(.ow []),!↥0,none,none,none] ⟨_,none,none,none,rfl,rfl⟩ (λ_ _=>rfl) (by
   rintro p x q e U ⟨I,S,v5,v6,rfl,rfl⟩;have Z:cI (((tf 0 p).map iT).length+1):=few (by
    rw[ai,ET];have:=congrArg List.length U;simp[List.length_zip] at this
    lia)
   have a:iT [x.2.1,(x.1:Int),0+aU (p.map (·.2)),0+aU (p.map (·.2))+x.2.2.1]=.tup [↥x.2.1,↥(x.1:Int),↥(aU (p.map (·.2))),↥(aU (p.map (·.2))+x.2.2.1)]:=by simp[iT]
   have b:aU ((p++[x]).map (·.2))=aU (p.map (·.2))+x.2.2.1:=by rw[cr,vk];simp[aU]
   rw[EQ,cr,b9,dw,a,b];generalize (tf 0 p).map iT=M at *;simp[wm,zU,ER,M6,Z])
 refine mf (e':=[!aG ss,!.lst (iD os),!.lst ((tf 0 (os.zip (tk ss os))).map iT),!↥(aU ((os.zip (tk ss os)).map (·.2))),S,v5,v6]) rfl ?_;show zV [!aG ss,!.lst (iD os),none,none,none,none,none]=_;have c:lD [.lst (iD os),.lst ((tk ss os).map sD)]=↑((os.zip (tk ss os)).map λx=>D.tup [D.int (x.1:Int),sD x.2]):=by
  show ↑(fG (iD os) ((tk ss os).map sD))=_;unfold iD;rw[E5]
 simp only[zV,aE,cQ,aH,qa,aK,gi,aC,fC,io,d5,ak,aB,ae,af,ac,ah,av,aw,bq,ie,dm,Y,c,h1]
theorem EU(ss:ln)(p:ic)(h:∀a∈p,1<=a/\a<=ss.length):((List.range ss.length).map (aQ ss p)).sum=(ss.flatten.length:Int)-(p.length:Int):=by
 have e:∀(f g:Nat->Nat) (l:ic),(l.map λj=>(f j:Int)-(g j:Int)).sum=((l.map f).sum:Int)-((l.map g).sum:Int):=λf g l=>by
  induction l with
  |nil=>rfl |cons a l ih=>simp[gn,ih];lia
 rw[<-As,<-uC ss.length p h];exact e _ _ _
theorem EV(f:Nat->Int):∀n:Nat,0<((List.range n).map f).sum->∃j,j<n/\0<f j
 |0,h=>by simp at h |n+1,h=>by
   rw[lh,cr,lg] at h;simp only[b9,dw,gn,List.sum_nil] at h;by_cases h1:0<f n
   ·exact⟨n,by lia,h1⟩
   ·obtain⟨j,I,D⟩:=EV f n ∅
    exact⟨j,by lia,D⟩
theorem M7(ss:ln)(hn:ss.length<=900)(hl:ss.flatten.length<=900)(V:Int):∃os,cT ss os/\tU [aG ss,↥V]=↑(iD os):=by
 have Z:=EU ss [] ⋯;rw[bq] at Z;have h:=Ay ss.length (aQ ss []);have E:((List.range ss.length).map (aQ ss [])).sum=(ss.flatten.length:Int):=by rw[Z];lia
 obtain⟨e',h1,p,I,C,v5,v6,rfl,Y,U,l⟩:=u4 (i:=4) (g:=zW) (λk e=>∃(p:ic) (I:Int) (C v5 v6:k8),e=[!aG ss,!↥I,↑(.ow (bE ss.length (aQ ss p))),↑(.ow (iD p)),C,v5,v6]/\p.length=k/\(∀a∈p,1<=a/\a<=ss.length)/\∀j,j<ss.length->0<=aQ ss p j)
  (bS 0 ss.flatten.length) [!aG ss,!↥V,↑(.ow (bE ss.length (aQ ss []))),↑(.ow []),none,none,none]
  ⟨[],V,none,none,none,rfl,rfl,by simp,λj S=>by unfold aQ;simp⟩ (by
   rintro k d e F ⟨p,I,C,v5,v6,rfl,Y,U,l⟩;obtain⟨rfl,hk⟩:=uv F;have G:=EU ss p U;obtain⟨W,H,J⟩:=EV (aQ ss p) ss.length (by rw[G];lia);have c:=oS (tt:=aI (aD d_ (aF 1 (aB 0)) [:0])) (te:=aB 0) (base:=[!.lst (bE ss.length (aQ ss p))]) (λj:Nat=>D.int (0+(j:Int))) (λj:Nat=>D.int (0+(j:Int))) (λj=>decide (0<aQ ss p j)) (List.range ss.length) (λj S=>by
    have S:j<ss.length:=gq.mp S;have q:=pV ss.length (aQ ss p) j S;rw[show(j:Int)=0+(j:Int) by lia] at q;refine⟨[!↥(0+(j:Int)),!.lst (bE ss.length (aQ ss p))],?_,λ_=>⟨[!↥(0+(j:Int)),!.lst (bE ss.length (aQ ss p))],rfl⟩⟩;simp only[aI,aD,aF,bP,aB,fC,d_,ae,af,ac,ah,q])
   generalize m:(List.range ss.length).filter (λj=>decide (0<aQ ss p j))=so at c;have X:0<so.length:=by
    apply i3.mpr;intro z;have:W∈so:=by rw[<-m];exact ja.mpr ⟨gq.mpr H,by simpa using J⟩
    rw[z] at this;cases this
   have T:so.length<=ss.length:=by rw[<-m];exact d7 (List.length_filter_le _ _) ⋯
   have aa:0<=I % (so.length:Int):=jx _ ∅;have ab:I % (so.length:Int)<(so.length:Int):=j1 _ ∅;have r:(I % (so.length:Int)).toNat<so.length:=by lia
   generalize S:so[(I % (so.length:Int)).toNat]=j at *;have t:j∈so:=by rw[<-S];exact ig r
   have K:j<ss.length/\0<aQ ss p j:=by
    rw[<-m] at t;obtain⟨a,b⟩:=ja.mp t;exact⟨gq.mp a,by simpa using b⟩
   have u:bG (so.map λj:Nat=>D.int (0+(j:Int))) (I % (so.length:Int))=↑↥(0+(j:Int)):=by
    rw[show I % (so.length:Int)=(((I % (so.length:Int)).toNat:Nat):Int) by lia];exact mi (λj:Nat=>D.int (0+(j:Int))) (by rw[bc r,S])
   have v:=pV ss.length (aQ ss p) j K.1;have n:bG (bE ss.length (aQ ss p)) (0+(j:Int))=↑↥(aQ ss p j):=by rw[ke];exact v
   have w:eI (bE ss.length (aQ ss p)).length (0+(j:Int))=↑j:=by
    rw[wp ∅ (by rw[mY];lia)];congr 1
    lia
   obtain⟨L,M⟩:=Ax ss p (j+1) ∅;rw[show j+1-1=j by lia] at L M;have f:=uD ss.length (aQ ss p) (aQ ss (p++[j+1])) j (λi _ hi=>M i hi);rw[L] at f;have x:(so.map λj:Nat=>D.int (0+(j:Int))).all yl=true:=by simp[yl]
   have N:iD (p++[j+1])=iD p++[↥(0+(j:Int)+1)]:=by rw[EI];simp[iD]
   have O:cI ((iD p).length+1):=few (by rw[EJ];lia);have P:cI (bS 0 ss.length).length:=few (by rw[x8];lia);have o:(so.map λj:Nat=>D.int (0+(j:Int))).length=so.length:=by simp
   have hi:=qb ss.length ∅;have Q:fP [↥((bE ss.length (aQ ss p)).length:Int)]=↑(bS 0 ss.length):=by rw[mY];exact hi
   have y:bS 0 ss.length=(List.range ss.length).map λj:Nat=>D.int (0+(j:Int)):=rfl;rw[<-y] at c;have A:bF ↥I ↥(so.length:Int)=↑↥(I % (so.length:Int)):=wt ∅;have B:cK ↥I ↥(so.length:Int)=↑↥(I / (so.length:Int)):=y8 ∅ ∅;refine⟨[!aG ss,!↥(I / (so.length:Int)),↑(.ow (bE ss.length (aQ ss (p++[j+1])))),↑(.ow (iD (p++[j+1]))),!↥(0+(k:Int)),!(.lst (so.map λj:Nat=>D.int (0+(j:Int)))),!↥(0+(j:Int))],?_,p++[j+1],_,_,_,_,rfl,by simp[Y],λa ha=>?_,λi hi=>?_⟩
   ·rw[<-f,N]
    simp only[zW,aE,aH,je,yp,rX,aJ,sA,io,ak,aC,jh,aF,bP,aD,aB,fC,oj,z8,aZ,iq,b9,dw,List.getD_cons_zero,List.getD_cons_succ,s0,ae,af,ac,ah,av,aw,Q,P,dm,c,x,o,A,B,u,n,w,O]
   ·rcases dg.mp ha with ha |ha
    ·exact U a ha
    ·have:a=j+1:=by simpa using ha
     lia
   ·by_cases e:i=j
    ·subst e;rw[L];lia
    ·rw[M i e];exact l i hi)
 rw[x8] at Y;have hw:cT ss p:=by
  refine⟨U,λj s S=>?_⟩;have R:=(aj.mp S).1;have:=EN (λj=>p.count (j+1)) (λj=>(ss.getD j []).length) ss.length (λj S=>by have:=l j S;unfold aQ at this;lia) (by rw[uC _ _ U,As,Y]) j R;rw[this];simp[S]
 refine⟨p,hw,?_⟩;have hc:=Aw ss;have hf:cI (ss.map λs=>D.lst (s.map sD)).length:=few (by rw[ai];lia);have hi:fP [↥(ss.flatten.length:Int)]=↑(bS 0 ss.flatten.length):=qb _ ∅;refine An (e':=[!aG ss,!↥I,↑(.ow (bE ss.length (aQ ss p))),↑(.ow (iD p)),C,v5,v6]) rfl ?_;show zX [!aG ss,!↥V,none,none,none,none,none]=_;unfold aG at h1 ⊢;simp only[zX,aE,cQ,bY,oE,jf,cP,aB,gi,aC,io,ak,we,dw,bq,ie,ae,af,ac,ah,av,aw,hf,dm,hc,h,E,hi,h1]
def M8(p q:lp)(j:Nat):c_ (p++q) j=c_ p j++c_ q j:=by unfold c_;rw[jz,cr]
def M9(r p:ll):ik:=(List.range p.length).map λi=>a_ r*aU (p.take (i+1))-a_ (p.take (i+1))*aU r
def EW(r:ll):ik:=M9 r r.dropLast
def r3(r:ik):Int:=r.getD 2 0
def srt(r:ik):ik:=[if r.getD 0 0<=r.getD 1 0 then r.getD 0 0 else r.getD 1 0,if r.getD 0 0<=r.getD 1 0 then r.getD 1 0 else r.getD 0 0]
def PS(w C:Sk->Int)(P:Int):ll->Int
 |x::y::r=>-(P+w x)*(C y-C x-y.2.1)+PS w C (P+w x) (y::r) |_=>0
theorem EX(l:ln):(l.map λs:ll=>(s.length:Int)).sum=(l.flatten.length:Int):=by
 induction l with
 |nil=>rfl |cons a l ih=>rw[b9,gn,ih,eh,ax];lia
theorem EY(ss:ln)(U:ss.length<=1000):tW [aG ss]=↑↥(ss.flatten.length:Int):=by
 have c:=qz (te:=jh 0) (base:=[]) (λs:ll=>D.lst (s.map sD)) (λs:ll=>D.int (s.length:Int)) ss λs _=>⟨_,by simp;rfl⟩;have I:=mV (λs:ll=>(s.length:Int)) ss;have S:cI (ss.map λs=>D.lst (s.map sD)).length:=few (by rw[ai];lia);rw[EX] at I;refine mf (e':=[!aG ss]) rfl ?_;show Aa [!aG ss]=_;unfold aG;generalize (ss.map λs=>D.lst (s.map sD))=L at *;simp[Aa,jf,S,c,I]
theorem MA(ss:ln)(U:∀s∈ss,s.length<=1000):Ac [aG ss]=↑↥(a_ ss.flatten):=by
 obtain⟨e',h1,v2,rfl⟩:=oV (i:=2) (g:=tX) (λs:ll=>D.lst (s.map sD)) (λp e=>∃v2,e=[!aG ss,!↥(a_ p.flatten),v2]) ss
  [!aG ss,!↥0,none] ⟨none,rfl⟩ (by
   rintro p s q e I ⟨v2,rfl⟩;have c:=qz (te:=d5 vv (ak (aB 0) aC)) (base:=[]) sD (λx:Sk=>D.int x.2.2) s λx _=>⟨_,by simp[ES];rfl⟩;have V:=mV (λx:Sk=>x.2.2) s;have Y:cI (s.map sD).length:=few (by rw[ai];have:=U s (by rw[I];simp);lia);have Z:a_ (p++[s]).flatten=a_ p.flatten+(s.map λx:Sk=>x.2.2).sum:=by rw[gh,vj];simp[a_]
   rw[Z];generalize s.map sD=L at *;simp[tX,jf,Y,c,V])
 refine mf (e':=[!aG ss,!↥(a_ ss.flatten),v2]) rfl ?_;show Ab [!aG ss,none,none]=_;have S:cF 2 tX (ss.map λs=>D.lst (s.map sD)) [!aG ss,!↥0,none]=_:=h1;unfold aG at *;simp[Ab,S]
theorem ve(h:ss[a-1]?=↑s)(I:1<=a):bG (ss.map λs=>D.lst (s.map sD)) ((a:Int)-1)=↑(.lst (s.map sD)):=by
 rw[show((a:Int)-1)=((a-1:Nat):Int) by lia];exact mi _ h
variable{x:Sk}
def EZ(h:ss[a-1]?=↑(x::r))(D:1<=a):tY [aG ss,↥(a:Int)]=↑(sD x):=by
 have h1:=ve h D;have h2:bG ((x::r).map sD) (0:Int)=↑(sD x):=mi sD (k:=0) rfl;refine mf (e':=[!aG ss,!↥(a:Int)]) rfl ?_;show Ad [!aG ss,!↥(a:Int)]=_;unfold aG;generalize (x::r).map sD=M at *;simp[Ad,h1,h2]
def E_(l:List α)(k:Nat)(x:α)(h:k<l.length):l.take k++[x]++l.drop (k+1)=l.set k x:=by
 rw[List.set_eq_take_append_cons_drop,am h];simp
def Az(l:k4)(k:Nat)(h:k<=l.length):cutD l none ↑(k:Int)=l.take k:=by
 have:=LX (l.take k) (l.drop k);simp_all
def pW(l:k4)(k:Nat)(h:k<=l.length):cutD l ↑(k:Int) none=l.drop k:=by
 have:=EC (l.take k) (l.drop k);rwa [List.take_append_drop,d8,Nat.min_eq_left h] at this
theorem A0(s:ll)(b:1<=a)(c:a<=ss.length)(d:ss.length<=1000):mT [aG ss,↥(a:Int),.lst (s.map sD)]=↑(aG (ss.set (a-1) s)):=by
 have e:(ss.map λs=>D.lst (s.map sD)).length=ss.length:=ai ..;have S:=Az (ss.map λs=>D.lst (s.map sD)) (a-1) ∅;have U:=pW (ss.map λs=>D.lst (s.map sD)) a ∅;have V:((a:Int)-1)=((a-1:Nat):Int):=by lia
 have I:=E_ (ss.map λs=>D.lst (s.map sD)) (a-1) (D.lst (s.map sD)) ∅;rw[show a-1+1=a by lia] at I;have Y:cI ((((ss.map λs=>D.lst (s.map sD)).take (a-1)).length)+(0+1)):=few (by simp only[d8];lia);have f2:cI (((ss.map λs=>D.lst (s.map sD)).take (a-1)++[D.lst (s.map sD)]).length+((ss.map λs=>D.lst (s.map sD)).drop a).length):=few (by simp[d8,fu];lia);have Z:aG (ss.set (a-1) s)=.lst ((ss.map λs=>D.lst (s.map sD)).set (a-1) (D.lst (s.map sD))):=by unfold aG;rw[jq]
 refine mf (e':=[!aG ss,!↥(a:Int),!.lst (s.map sD)]) rfl ?_;show Ae [!aG ss,!↥(a:Int),!.lst (s.map sD)]=_;rw[Z,<-I];unfold aG;generalize s.map sD=M at *;simp only[Ae,aK,aJ,bW,fI,fY,fF,gi,ak,aC,aB,aD,fC,aZ,V,ae,af,ac,ah,S,U,Y,f2,dm,ao,bq,show(0+1<=64)=True by simp]
theorem Fa(h:ss[a-1]?=↑(x::r))(D:1<=a)(I:ss.length<=1000):tZ [aG ss,↥(a:Int)]=↑(aG (ss.set (a-1) r)):=by
 have h1:=ve h D;have U:=(aj.mp h).1;have c:cutD ((x::r).map sD) ↑((1:Nat):Int) none=((x::r).map sD).drop 1:=pW _ 1 ⋯;have S:=A0 (ss:=ss) r D ∅ I;refine mf (e':=[!aG ss,!↥(a:Int)]) rfl ?_;show Af [!aG ss,!↥(a:Int)]=_;have c:cutD ((x::r).map sD) ↑(1:Int) none=r.map sD:=c;unfold aG at *;generalize (x::r).map sD=M at *;simp[Af,h1,c,S]
variable{p:List Hs}
theorem MB{p b:ll}{B:ll}(h:B=p++b)(g:Good B):¬gt (bM B) (bM b):=by
 have h1:=g.beg p ⟨b,h.symm⟩;have D:aU B=aU p+aU b:=by rw[h,vk]
 have I:a_ B=a_ p+a_ b:=by rw[h,vj]
 show ¬a_ b*aU B<a_ B*aU b;rw[D,I] at h1 ⊢
 lia
theorem MC(a:Nat)(D:ln)(j:Nat):c_ (D.map λb=>(a,b)) j=if a=j+1 then D else[]:=by
 unfold c_;induction D with
 |nil=>simp |cons b r ih =>
   grind
def MD(a:Nat)(D:ln):og (D.map λb=>(a,b))=List.replicate D.flatten.length a:=by
 unfold og;induction D with
 |nil=>simp |cons b r ih =>
   simp_all
theorem ME(ok:aO ss ((a,x::r)::ts))(A:∀y∈ss.flatten,j5 y)(k:ss.flatten.length<=14) :
  ∃tl Y,ss[a-1]?=↑(x::tl)/\1<=a/\a<=ss.length/\aO (ss.set (a-1) tl) Y/\og Y=List.replicate r.length a++og ts/\(Y.map (·.2)).flatten=r++(ts.map (·.2)).flatten:=by
 have lo:=ok.lo (a,x::r) ⋯;have H:=ok.good (a,x::r) ⋯;have Z:=ok.sk A (a,x::r) ⋯;have l:=ok.len1 (a,x::r) ⋯;have m:=ok.left;have S:=EA (n:=ss.length) (t:=(a,x::r)) (ts:=ts) lo.1 lo.2;rw[m] at S;obtain⟨I,U,_⟩:=E2 r (λy o=>Z y (by simp[o])) (by rw[ao] at l;lia);have pos:∀b∈I,0<aU b:=λb D=>vi b (λy o=>Z y (bg _ (by rw[<-U.flat];exact jp.mpr ⟨b,by simpa using D,o⟩))) (U.good b D).ne;have p:0<aU (x::r):=vi _ Z ⋯;have B:=Ai I U.desc pos;have C:∀b∈I,¬gt (bM (x::r)) (bM b):=by
  cases I with
  |nil=>intro b D;cases D
  |cons bl rs' =>
    have q:x::r=(x::rs'.reverse.flatten)++bl:=by rw[<-U.flat];simp
    have E:=MB q H;intro b D;rcases b6.mp D with rfl |hb'
    ·exact E
    ·exact E6 (pos b D) (pos bl ⋯) p (λz=>xu ((f8.mp B).1 b hb') z) E
 have g:=ok.srt;obtain⟨v,w⟩:=f8.mp g;have i:∀t∈I.reverse.map (λb=>(a,b))++ts,1<=t.1/\t.1<=ss.length:=λt d=>by
  rcases dg.mp d with h |h
  ·obtain⟨b,_,rfl⟩:=f7.mp h;exact lo
  ·exact ok.lo t (by simp[h])
 have f:jo ss.length (I.reverse.map (λb=>(a,b))++ts)=ss.set (a-1) (r++(c_ ts (a-1)).flatten):=by
  apply fo;intro j;by_cases V:j<ss.length
  ·rw[t0 V,jg,M8,MC]
   by_cases e:a-1=j
   ·subst e
    rw[am ∅,am rfl,am V,gh,U.flat]
   ·rw[bw ∅,bw e]
    have:=ok.part j ss[j] (by simp[V]);rw[Ak _ _ _ (by simp;lia)] at this;simp[this,V]
  ·rw[dq (by rw[pi];lia),dq (by rw[d6];lia)]
 refine⟨r++(c_ ts (a-1)).flatten,I.reverse.map (λb=>(a,b))++ts,S,lo.1,lo.2,?_,?_,?_⟩
 ·rw[<-f]
  refine⟨λt d=>by rw[pi];exact i t d,λt d=>?_,λj s V=>?_,?_,Am i⟩
  ·rcases dg.mp d with h |h
   ·obtain⟨b,D,rfl⟩:=f7.mp h;exact U.good b (by simpa using D)
   ·exact ok.good t (by simp[h])
  ·have k:=(aj.mp V).1
   rw[pi] at k;rw[t0 k] at V;exact b8 V
  ·rw[jl]
   refine⟨?_,w,λt d u F=>?_⟩
   ·rw[List.pairwise_map,List.pairwise_reverse]
    exact B.imp λh=>.inl h
   ·obtain⟨b,D,rfl⟩:=f7.mp d
    have D:b∈I:=by simpa using D
    have G:0<aU u.2:=ok.pos A u (by simp[F]);rcases v u F with z | ⟨z1,z2⟩
    ·exact .inl (LK (n:=bM b) (c:=bM (x::r)) (b:=bM u.2) (pos b D) p G (C b D) z)
    ·exact .inr ⟨E6 (n:=bM b) (c:=bM (x::r)) (b:=bM u.2) (pos b D) p G (C b D) z1,z2⟩
 ·rw[pU,MD,U.flat]
 ·rw[cr,gh,gg]
  show((I.reverse.map λb=>b).flatten)++_=_;rw[List.map_id',U.flat]
def pX:FS:=aV (gL (aI (aD gG (aB 1) [:1])) (aI (aD d_ (aB 1) (jh 0)))) (mj "UnknownStack" (some)) (aM)
def x9:k9->k4->k6:=bL 2 0 2 pX
def vy:k9->k4->ka:=xQ 2 0 2 pX
def A1:FS:=aE (aV (aI (aD bU (jh 0) [:0])) (aK [:0]) (aM)) (aK (aD cS (aF 0 (gF dN [:1])) [:1]))
def uF:k4->k6:=aR 1 1 A1
def A2:FS:=aV (gL (aI (aD gG (aB 0) [:0])) (aI (aD d_ (aB 0) [:5]))) (mj "BadCount" ((λz=>(↑z).bind ((λz=>((vInt [:5]) z).bind ((λz=>(↑z).bind (some)))))))) (aM)
def uG:k9->k4->k6:=bL 1 0 1 A2
def uH:k9->k4->ka:=xQ 1 0 1 A2
def pY:FS:=aV (gL (aI (aD gG (aB 0) [:1])) (aI (aD d_ (aB 0) [:60]))) (mj "BadHours" ((λz=>(↑z).bind ((λz=>((vInt [:60]) z).bind ((λz=>(↑z).bind (some)))))))) (aM)
def uI:k9->k4->k6:=bL 1 0 1 pY
def mZ:k9->k4->ka:=xQ 1 0 1 pY
def pZ:FS:=aV (gL (aI (aD gG (aB 0) [:0])) (aI (aD d_ (aB 0) [:100]))) (mj "BadLoss" ((λz=>(↑z).bind ((λz=>((vInt [:100]) z).bind (some)))))) (aM)
def p_:k9->k4->k6:=bL 1 0 1 pZ
def zp:k9->k4->ka:=xQ 1 0 1 pZ
def uJ:FS:=aV (aI (aD iL (d5 tW (ak (aB 0) (aC))) [:14])) (mj "HouseFull" ((λz=>((vInt [:14]) z).bind ((λz=>(↑z).bind (some)))))) (aM)
def uK:k9->k4->k6:=bL 1 0 1 uJ
def m_:k9->k4->ka:=xQ 1 0 1 uJ
def uL:FS:=aV (aI (aD iL (jh 0) [:60])) (mj "DeedsFull" ((λz=>((vInt [:60]) z).bind ((λz=>(↑z).bind (some)))))) (aM)
def zm:k9->k4->k6:=bL 1 0 1 uL
def xg:k9->k4->ka:=xQ 1 0 1 uL
def Fb:FS:=aK (aD iq [:1] (d5 dO (ak (aJ (jf (cP (aB 0)) [] (aI (aD bU (aF 0 [:0]) (fC (.str "put")))) (aB 0))) (aC))))
def uM:k4->k6:=aR 1 1 Fb
def uN:FS:=aE (cA (j2 uH [] (ak (aB 1) (aC))) (je (iz uG [] (ak (aB 1) (aC))))) (aE (p6 0 "House" "kept" (gi (aC))) (p6 0 "House" "states" (gi (ak (aW (ak (aJ (jf (io fP (ak (aB 1) (aC))) [] b_ (aJ (gi (aC))))) (ak (aJ (gi (aC))) (aC)))) (aC)))))
def qq:k9->k4->la:=dB 2 1 1 uN
def A3:k9->k4->Option (Str×k9):=xL 2 1 1 uN
def A4:FS:=aK (aD cS (mM (.at (.ins false "House" jm)) 0 1 (-1)) [:0])
def uf:k9->k4->k6:=bL 1 1 0 A4
def MF:k9->k4->ka:=xQ 1 1 0 A4
def A5:FS:=aK (aD cS (mM (.at (.ins false "House" jm)) 0 1 (-1)) [:1])
def vw:k9->k4->k6:=bL 1 1 0 A5
def MG:k9->k4->ka:=xQ 1 1 0 A5
def A6:FS:=aE (je (vm (.at (.ins false "House" jm)) 0 0 (aB 1))) (je (vm (.at (.ins false "House" jm)) 0 1 (aW (ak (aB 2) (ak (aB 3) (aC))))))
def u5:k9->k4->la:=dB 4 1 3 A6
def MH:k9->k4->Option (Str×k9):=xL 4 1 3 A6
def wx:FS:=aE (aH 4 (fK (.ins false "House" jm) 0 (iz uf [0] (aC)))) (aE (cA (j2 vy [] (ak (aB 4) (ak (aB 1) (aC)))) (je (iz x9 [] (ak (aB 4) (ak (aB 1) (aC)))))) (aE (cA (j2 mZ [] (ak (aB 2) (aC))) (je (iz uI [] (ak (aB 2) (aC))))) (aE (cA (j2 zp [] (ak (aB 3) (aC))) (je (iz p_ [] (ak (aB 3) (aC))))) (aE (cA (j2 m_ [] (ak (aB 4) (aC))) (je (iz uK [] (ak (aB 4) (aC))))) (aE (cA (fH true (j2 xg [] (ak (tm (.ins false "House" jm) 0 0) (aC)))) (je (cZ true (iz zm [] (ak (tm (.ins false "House" jm) 0 0) (aC)))))) (aE (aH 5 (cZ true (d5 uM (ak (tm (.ins false "House" jm) 0 0) (aC))))) (aE (aH 6 (aJ (bW (aJ (gi (ak (aW (ak (aB 5) (ak (aB 2) (ak (aB 3) (aC))))) (aC)))) (aF 4 (aD aZ (aB 1) [:1]))))) (aE (je (fK (.ins false "House" jm) 0 (me u5 [0] (ak (aW (ak (fC (.str "put")) (ak (aB 1) (ak (aB 2) (ak (aB 3) (aC)))))) (ak (d5 mT (ak (aB 4) (ak (aB 1) (ak (aB 6) (aC))))) (ak (fK (.ins false "House" jm) 0 (iz vw [0] (aC))) (aC))))))) (aK (aB 5))))))))))
def qA:k9->k4->la:=dB 7 1 3 wx
def nb:k9->k4->Option (Str×k9):=xL 7 1 3 wx
def A7:FS:=aK (aJ (sR (.at (.ins false "House" jm)) 0 0))
def qB:k9->k4->k6:=bL 1 1 0 A7
def MI:k9->k4->ka:=xQ 1 1 0 A7
def A8:FS:=aK (aJ (jf (cP (fK (.ins false "House" jm) 0 (iz uf [0] (aC)))) [] b_ (aJ (io qj (ak (aB 0) (aC))))))
def qC:k9->k4->k6:=bL 1 1 0 A8
def MJ:k9->k4->ka:=xQ 1 1 0 A8
def A9:FS:=aK (d5 uF (ak (fK (.ins false "House" jm) 0 (iz vw [0] (aC))) (aC)))
def uO:k9->k4->k6:=bL 1 1 0 A9
def MK:k9->k4->ka:=xQ 1 1 0 A9
def uP:FS:=aV (aI (aD bU (d5 tW (ak (aB 0) (aC))) [:0])) (mj "NothingWaits" (some)) (aM)
def uQ:k9->k4->k6:=bL 1 0 1 uP
def nn:k9->k4->ka:=xQ 1 0 1 uP
def np:FS:=aE (aH 1 (fK (.ins false "House" jm) 0 (iz uf [0] (aC)))) (aE (cA (j2 nn [] (ak (aB 1) (aC))) (je (iz uQ [] (ak (aB 1) (aC))))) (aE (cA (fH true (j2 xg [] (ak (tm (.ins false "House" jm) 0 0) (aC)))) (je (cZ true (iz zm [] (ak (tm (.ins false "House" jm) 0 0) (aC)))))) (aE (aH 2 (aD cS (aJ (io ya (ak (aB 1) (aC)))) [:0])) (aE (aH 3 (d5 tY (ak (aB 1) (ak (aB 2) (aC))))) (aE (aH 4 (fK (.ins false "House" jm) 0 (iz uO [0] (aC)))) (aE (aH 5 (aW (ak (aB 4) (ak (aD iq (aB 4) (d5 rq (ak (aB 3) (aC)))) (ak (d5 Ac (ak (aB 1) (aC))) (aC)))))) (aE (je (fK (.ins false "House" jm) 0 (me u5 [0] (ak (aW (ak (fC (.str "dry")) (aC))) (ak (d5 tZ (ak (aB 1) (ak (aB 2) (aC)))) (ak (aJ (bW (fK (.ins false "House" jm) 0 (iz vw [0] (aC))) (aJ (gi (ak (aB 5) (aC)))))) (aC))))))) (aK (aB 3)))))))))
def qD:k9->k4->la:=dB 6 1 0 np
def nq:k9->k4->Option (Str×k9):=xL 6 1 0 np
def AA:FS:=aK (d5 fE (ak (aJ (jf (cP (aB 0)) [] b_ (d5 fE (ak (aJ (jf (cP (aB 0)) [] b_ (aF 0 [:2]))) (aC))))) (aC)))
def uR:k4->k6:=aR 1 1 AA
def uS:FS:=aH 1 (aJ (bW (aB 1) (aJ (iO (gi (ak (aB 4) (aC))) (aD aZ (aB 3) (aB 2))))))
def AB:FS:=aE (aH 1 (aJ (gi (aC)))) (aE (qa [2,3,4] (cP (aB 0)) (uS)) (aK (aB 1)))
def AC:k4->k6:=aR 5 1 AB
def ML:FS:=aV (aI (aD gG (aD uh (aB 2) (d5 oq (ak (aB 5) (aC)))) (aD uh (aB 2) (d5 oq (ak (aB 4) (aC)))))) (aH 3 (aD iq (aB 3) (aD cN (d5 rq (ak (aB 4) (aC))) (d5 rq (ak (aB 5) (aC)))))) (aM)
def MM:FS:=bY 5 (cP (aB 1)) (ML)
def MN:FS:=aE (aH 3 [:0]) (aE (bY 4 (cP (aB 0)) (MM)) (aK (aB 3)))
def Fc:k4->k6:=aR 6 3 MN
def MO:FS:=aE (aH 7 (aF 1 (aB 6))) (aE (aH 8 (aD cN (d5 x6 (ak (aF 0 (aB 4)) (ak (aF 0 (aB 6)) (aC)))) (d5 Fc (ak (aB 5) (ak (aB 7) (ak (aB 2) (aC))))))) (aV (aI (aD d_ (aB 8) [:0])) (aE (aH 9 (aD cN (aD cS (aF 0 (aB 4)) [:0]) (aD cS (aF 0 (aB 6)) [:0]))) (je (oj 3 (aW (ak (fC (.str "turned")) (ak (d5 oq (ak (aF 5 [:0]) (aC))) (ak (d5 oq (ak (aF 7 [:0]) (aC))) (ak (aB 8) (ak (aB 9) (aC)))))))))) (aM)))
def MP:FS:=bY 6 (io rQ (ak (aD iq (aB 4) [:1]) (ak (jh 1) (aC)))) (MO)
def MQ:FS:=aE (cQ 3 (gi (aC))) (aE (qa [4,5] (io (iY 0) (ak (aB 1) (aC))) (MP)) (aK (aB 3)))
def AD:k4->k6:=aR 10 3 MQ
def MR:FS:=aK (d5 oR (ak (aJ (sF 4 (cP (aB 0)) [] b_ (aW (ak (aB 0) (ak (aW (ak (aB 2) (ak (aB 3) (aC)))) (aC)))))) (aC)))
def AE:k4->k6:=aR 1 1 MR
def MS:FS:=aE (aH 8 (d5 oq (ak (aF 5 (aB 6)) (aC)))) (aE (aH 9 (d5 oq (ak (aF 5 (aD iq (aB 6) [:1])) (aC)))) (aE (aH 10 (aD cN (aB 7) (aD aZ (aD cS (aD uh (aB 2) (aB 9)) [:0]) (aD cS (aD uh (aB 2) (aB 8)) [:1])))) (aV (aI (aD d_ (aB 10) [:0])) (je (oj 3 (aW (ak (fC (.str "parted")) (ak (aB 8) (ak (aB 9) (ak (aB 10) (ak (aF 4 [:0]) (aC))))))))) (aM))))
def MT:FS:=qa [6,7] (io (iY 0) (ak (d5 Eu (ak (aB 4) (ak (aB 5) (aC)))) (aC))) (MS)
def MU:FS:=aE (cQ 3 (gi (aC))) (aE (qa [4,5] (io lD (ak (aB 0) (ak (aB 1) (aC)))) (MT)) (aK (aB 3)))
def AF:k4->k6:=aR 11 3 MU
def MV:FS:=aE (aH 2 (d5 Et (ak (aB 0) (ak (aB 1) (aC))))) (aE (aH 3 (d5 pS (ak (d5 zr (ak (aB 0) (ak (aB 1) (aC)))) (aC)))) (aE (aH 4 (d5 mR (ak (aB 0) (aC)))) (aE (aH 5 (d5 z_ (ak (aB 0) (ak (aB 4) (aC))))) (aE (aH 6 (aJ (jf (cP (aB 4)) [] b_ (d5 wy (ak (aB 0) (aC)))))) (aK (aJ (bW (d5 AD (ak (aB 6) (ak (aB 5) (ak (aB 3) (aC))))) (d5 AF (ak (aB 6) (ak (aB 5) (ak (d5 AE (ak (aB 2) (aC))) (aC))))))))))))
def MW:k4->k6:=aR 7 2 MV
def bI:FS:=aE (aH 2 (fK (.ins false "House" jm) 0 (iz uf [0] (aC)))) (aE (aH 3 (aD aZ (d5 zY (ak (aB 2) (ak (aB 1) (aC)))) (d5 zZ (ak (aB 2) (aC))))) (aK (aW (ak (aB 3) (ak (d5 L3 (ak (aB 2) (ak (aB 1) (aC)))) (ak (d5 MW (ak (aB 2) (ak (aB 1) (aC)))) (aC)))))))
def cU:k9->k4->k6:=bL 4 1 1 bI
def bJ:k9->k4->ka:=xQ 4 1 1 bI
def Fd:FS:=aK (aD cS (aJ (gi (ak [:5] (ak [:3] (ak [:2] (ak [:4] (ak [:1] (ak [:5] (ak [:0] (ak [:4] (ak [:3] (ak [:5] (ak [:2] (ak [:4] (aC))))))))))))))) (aD bF (aB 0) [:12]))
def uT:k4->k6:=aR 1 1 Fd
def Fe:FS:=aE (aH 2 (jh 1)) (aE (aH 3 (aJ (gi (ak (fC (.str "put")) (ak (fC (.str "put")) (ak (fC (.str "tell")) (ak (fC (.str "dry")) (ak (fC (.str "put")) (ak (fC (.str "go")) (ak (fC (.str "put")) (ak (fC (.str "put")) (ak (fC (.str "back")) (ak (fC (.str "tell")) (ak (fC (.str "put")) (ak (fC (.str "dry")) (aC)))))))))))))))) (aE (aH 4 (aF 3 (aD bF (aB 0) [:12]))) (aE (aH 5 (aD bF (aD cK (aB 0) [:12]) [:16])) (aE (aH 6 (aD cK (aB 0) [:192])) (aE (aH 7 (aD iq [:1] (aD bF (aB 6) (d5 jG (ak (aB 2) (ak [:1] (aC))))))) (aE (aH 6 (aD cK (aB 6) [:5])) (aE (aV (gL (aI (aD bU (aB 5) [:5])) (aI (aD bU (aB 2) [:0]))) (aH 7 (aD cS (aJ (gi (ak [:0] (ak (aD iq (aB 2) [:1]) (ak (gF dN [:1]) (ak (aD fO [:10] [:12]) (aC))))))) (aD bF (aB 6) [:4]))) (aM)) (aE (aH 8 (aD iq [:1] (aD bF (aB 6) [:60]))) (aE (aV (aI (aD bU (aB 5) [:6])) (aH 8 (aD cS (aJ (gi (ak [:0] (ak [:61] (ak (gF dN [:1]) (ak (aD fO [:10] [:12]) (aC))))))) (aD bF (aB 6) [:4]))) (aM)) (aE (aH 9 (aD bF (aD cK (aB 6) [:60]) [:101])) (aE (aV (aI (aD d_ (aB 5) [:9])) (aE (aH 8 (aD iq [:1] (aD bF (aB 8) [:3]))) (aH 9 (aD bF (aB 9) [:4]))) (aM)) (aE (aV (aI (aD bU (aB 5) [:7])) (aH 9 (aD cS (aJ (gi (ak (gF dN [:1]) (ak [:101] (ak (gF dN (aD fO [:10] [:12])) (ak (aD fO [:10] [:12]) (aC))))))) (aD bF (aD cK (aB 6) [:60]) [:4]))) (aM)) (aE (aH 10 [:0]) (aE (aV (dI (aI (aD rJ [:1] (aB 7))) (aI (aD rJ (aB 7) (aB 2)))) (aH 10 (d5 dO (ak (aF 1 (aD aZ (aB 7) [:1])) (aC)))) (aM)) (aE (aH 11 (aD iq [:1] (aD bF (aD cK (aB 6) [:6060]) (d5 jG (ak (aB 10) (ak [:1] (aC))))))) (aE (aV (aI (aD bU (aB 5) [:8])) (aH 11 (aD cS (aJ (gi (ak [:0] (ak (aD iq (aB 10) [:1]) (ak (gF dN [:1]) (ak (aD fO [:10] [:12]) (aC))))))) (aD bF (aD cK (aB 6) [:6060]) [:4]))) (aM)) (aE (aV (aI (aD bU (aB 4) (fC (.str "put")))) (aK (aW (ak (fC (.str "put")) (ak (aB 7) (ak (aB 8) (ak (aB 9) (aC))))))) (aM)) (aE (aV (aI (aD bU (aB 4) (fC (.str "tell")))) (aK (aW (ak (fC (.str "tell")) (ak (aB 7) (ak (aB 11) (ak (aB 9) (aC))))))) (aM)) (aE (aV (aI (aD bU (aB 4) (fC (.str "go")))) (aK (aW (ak (fC (.str "go")) (ak (aB 7) (aC))))) (aM)) (aK (aW (ak (aB 4) (aC)))))))))))))))))))))))
def nt:k4->k6:=aR 12 2 Fe
def Ff:FS:=aE (aH 3 (aF 2 [:0])) (aE (aV (aI (aD bU (aB 3) (fC (.str "back")))) (aK (aD cS (aJ (gi (ak (fC (.str "")) (ak (fC (.str "nothing done")) (aC))))) (d5 jF (ak (aD bU (aB 1) [:0]) (aC))))) (aM)) (aE (aV (aI (aD bU (aB 3) (fC (.str "dry")))) (aV (aI (aD bU (d5 fE (ak (aJ (jf (cP (aB 0)) [] b_ (jh 0))) (aC))) [:0])) (aK (fC (.str "nothing waits"))) (aM)) (aV (gL (aI (aD gG (aF 2 [:1]) [:1])) (aI (aD d_ (aF 2 [:1]) (jh 0)))) (aK (fC (.str "unknown stack"))) (aV (dI (aI (aD jZ (aB 3) (fC (.str "put")))) (aI (aD bU (d5 dO (ak (aF 0 (aD aZ (aF 2 [:1]) [:1])) (aC))) [:0]))) (aK (fC (.str "empty stack"))) (aM)))) (aE (aV (dI (aI (aD bU (aB 3) (fC (.str "tell")))) (gL (aI (aD gG (aF 2 [:2]) [:1])) (aI (aD d_ (aF 2 [:2]) (d5 dO (ak (aF 0 (aD aZ (aF 2 [:1]) [:1])) (aC))))))) (aK (fC (.str "unknown place"))) (aM)) (aE (aV (dI (aI (aD bU (aB 3) (fC (.str "put")))) (gL (aI (aD gG (aF 2 [:2]) [:1])) (aI (aD d_ (aF 2 [:2]) [:60])))) (aK (fC (.str "bad hours"))) (aM)) (aE (aV (dI (gL (aI (aD bU (aB 3) (fC (.str "put")))) (aI (aD bU (aB 3) (fC (.str "tell"))))) (gL (aI (aD gG (aF 2 [:3]) [:0])) (aI (aD d_ (aF 2 [:3]) [:100])))) (aK (fC (.str "bad loss"))) (aM)) (aE (aV (dI (aI (aD bU (aB 3) (fC (.str "put")))) (aI (aD iL (d5 fE (ak (aJ (jf (cP (aB 0)) [] b_ (jh 0))) (aC))) [:14]))) (aK (fC (.str "house full"))) (aM)) (aE (aV (aI (aD iL (aB 1) [:60])) (aK (fC (.str "deeds full"))) (aM)) (aK (fC (.str ""))))))))))
def qE:k4->k6:=aR 4 3 Ff
def xb:FS:=aE (oH 3 (oJ (cP (aB 0)) [] (io qj (ak (aB 0) (aC))))) (aE (aH 4 [:0]) (aE (aV (aI (aD d_ (jh 1) [:1])) (aH 4 (aD aZ (aF 1 [:1]) [:1])) (aM)) (aE (aV (aI (aD bU (aF 1 [:0]) (fC (.str "put")))) (aE (xk 3 (aB 4) (wb false (bW (aJ (gi (ak (aW (ak (aB 2) (ak (aF 1 [:2]) (ak (aF 1 [:3]) (aC))))) (aC)))) (aF 3 (aB 4))))) (aK (aJ (gi (ak (aB 3) (ak (aB 2) (aC))))))) (aM)) (aE (aV (aI (aD bU (aF 1 [:0]) (fC (.str "tell")))) (aE (aH 5 (cZ false (aD cS (aF 3 (aB 4)) (aD aZ (aF 1 [:2]) [:1])))) (aE (s_ 3 (aB 4) (aD aZ (aF 1 [:2]) [:1]) (aW (ak (aF 5 [:0]) (ak (aF 5 [:1]) (ak (aF 1 [:3]) (aC)))))) (aK (aJ (gi (ak (aB 3) (ak (aF 5 [:2]) (aC)))))))) (aM)) (aE (aV (aI (aD bU (aF 1 [:0]) (fC (.str "dry")))) (aH 4 (aD aZ (aD cS (aD cS (d5 tQ (ak (aB 0) (aC))) [:0]) [:0]) [:1])) (aM)) (aE (aH 5 (cZ false (aD cS (aF 3 (aB 4)) [:0]))) (aE (xk 3 (aB 4) (wb false (fI (aF 3 (aB 4)) (fF [:1]) (fY)))) (aK (aJ (gi (ak (aB 3) (ak (aB 5) (aC)))))))))))))
def vt:k4->k6:=aR 6 3 xb
def AG:FS:=aE (aV (aI (fJ "tuple" (aB 1))) (aK (d5 vz (ak (aB 0) (ak (aB 1) (aC))))) (aM)) (aK (xo (d5 mQ (ak (aB 0) (aC))) (aD bU (aB 0) (aB 1))))
def nu:k4->k6:=aR 2 2 AG
def AH:FS:=sV (kJ (p4 (aJ (jf (io fP (ak (aB 0) (aC))) [] b_ (aJ (gi (aC))))) (p5 (gi (aC)) (p5 (gi (aC)) (p4 (aJ (gi (aC))) (lL))))))
def uU:k4->Option Ag:=iQ 1 1 AH
def MX:k4->ka:=xG 1 1 AH
def uV:FS:=aV (aI (aD bU (d5 dO (ak (aF 0 (aD aZ (aB 1) [:1])) (aC))) [:0])) (mj "EmptyStack" ((λz=>(↑z).bind ((λz=>((vInt (aB 1)) z).bind (some)))))) (aM)
def qF:k9->k4->k6:=bL 2 0 2 uV
def zo:k9->k4->ka:=xQ 2 0 2 uV
def zh:FS:=aE (aH 2 (fK (.ins false "House" jm) 0 (iz uf [0] (aC)))) (aE (cA (j2 vy [] (ak (aB 2) (ak (aB 1) (aC)))) (je (iz x9 [] (ak (aB 2) (ak (aB 1) (aC)))))) (aE (cA (j2 zo [] (ak (aB 2) (ak (aB 1) (aC)))) (je (iz qF [] (ak (aB 2) (ak (aB 1) (aC)))))) (aE (cA (fH true (j2 xg [] (ak (tm (.ins false "House" jm) 0 0) (aC)))) (je (cZ true (iz zm [] (ak (tm (.ins false "House" jm) 0 0) (aC)))))) (aE (je (fK (.ins false "House" jm) 0 (me u5 [0] (ak (aW (ak (fC (.str "go")) (ak (aB 1) (aC)))) (ak (d5 tZ (ak (aB 2) (ak (aB 1) (aC)))) (ak (fK (.ins false "House" jm) 0 (iz vw [0] (aC))) (aC))))))) (aK (d5 tY (ak (aB 2) (ak (aB 1) (aC)))))))))
def qG:k9->k4->la:=dB 3 1 1 zh
def nw:k9->k4->Option (Str×k9):=xL 3 1 1 zh
def qH:FS:=aV (gL (aI (aD gG (aB 1) [:1])) (aI (aD d_ (aB 1) (jh 0)))) (mj "UnknownPlace" (some)) (aM)
def uW:k9->k4->k6:=bL 2 0 2 qH
def n0:k9->k4->ka:=xQ 2 0 2 qH
def MY:FS:=aK (aW (ak (d5 oq (ak (aB 0) (aC))) (ak (d5 rq (ak (aB 0) (aC))) (ak (aB 1) (aC)))))
def AI:k4->k6:=aR 2 2 MY
def v8:FS:=aE (aH 4 (fK (.ins false "House" jm) 0 (iz uf [0] (aC)))) (aE (cA (j2 vy [] (ak (aB 4) (ak (aB 1) (aC)))) (je (iz x9 [] (ak (aB 4) (ak (aB 1) (aC)))))) (aE (cA (j2 zo [] (ak (aB 4) (ak (aB 1) (aC)))) (je (iz qF [] (ak (aB 4) (ak (aB 1) (aC)))))) (aE (aH 5 (aF 4 (aD aZ (aB 1) [:1]))) (aE (cA (j2 n0 [] (ak (aB 5) (ak (aB 2) (aC)))) (je (iz uW [] (ak (aB 5) (ak (aB 2) (aC)))))) (aE (cA (j2 zp [] (ak (aB 3) (aC))) (je (iz p_ [] (ak (aB 3) (aC))))) (aE (cA (fH true (j2 xg [] (ak (tm (.ins false "House" jm) 0 0) (aC)))) (je (cZ true (iz zm [] (ak (tm (.ins false "House" jm) 0 0) (aC)))))) (aE (aH 6 (aF 5 (aD aZ (aB 2) [:1]))) (aE (aH 7 (aJ (bW (aJ (bW (aJ (fI (aB 5) (fY) (fF (aD aZ (aB 2) [:1])))) (aJ (gi (ak (d5 AI (ak (aB 6) (ak (aB 3) (aC)))) (aC)))))) (aJ (fI (aB 5) (fF (aB 2)) (fY)))))) (aE (je (fK (.ins false "House" jm) 0 (me u5 [0] (ak (aW (ak (fC (.str "tell")) (ak (aB 1) (ak (aB 2) (ak (aB 3) (aC)))))) (ak (d5 mT (ak (aB 4) (ak (aB 1) (ak (aB 7) (aC))))) (ak (fK (.ins false "House" jm) 0 (iz vw [0] (aC))) (aC))))))) (aK (d5 vv (ak (aB 6) (aC)))))))))))))
def qI:k9->k4->la:=dB 8 1 3 v8
def n2:k9->k4->Option (Str×k9):=xL 8 1 3 v8
inductive eE where
 |put (a h l:Int) |tell (a p l:Int) |go (a:Int) |dry
abbrev lx:=List eE
def dD:eE->D
 | .put a h l=>.tup [.str "put",↥a,↥h,↥l]
 | .tell a p l=>.tup [.str "tell",↥a,↥p,↥l]
 | .go a=>.tup [.str "go",↥a] | .dry=>.tup [.str "dry"]
def eE.isPut:eE->Bool | .put ..=>true |_=>false
abbrev uX:=Int×Int×Int
abbrev l0:=List uX
abbrev Hs:=ln×l0
abbrev l1:=List Hs
def bX(sp:l0):D:=.lst (sp.map sD)
def dC(s:Hs):D:=.tup [aG s.1,bX s.2]
abbrev kH:AK:=.ins false "House" jm
def hP(k:lx)(s:l1):k7:=[.o (k.map dD),.o (s.map dC)]
abbrev hA(k:lx)(s:l1):Ag:=(kH,hP k s)
variable{e:aP}{κ:AK}{l:Option Nat}{ps:k7}
def Fg(h:e[i]?=↑↑(.ag κ l ps))(D:ps[j]?=↑(.o ds)):mz (.at κ) i j e=↑ds:=by
 unfold mz cY;rw[am (show Acc.ok (.at κ) e i j from(show jT κ e i from .inl ⟨_,_,h⟩)),h];dsimp;rw[D]
def AJ(h:e[i]?=↑↑(.ro κ ps))(D:ps[j]?=↑(.o ds)):mz (.at κ) i j e=↑ds:=by
 unfold mz cY;rw[am (show Acc.ok (.at κ) e i j from(show jT κ e i from .inr ⟨_,h⟩)),h];dsimp;rw[D]
variable{f:FE}
def AL(h:e[i]?=↑↑(.ag κ l ps)):fK κ i f e=f e:=am (.inl ⟨_,_,h⟩)
def uY(h:e[i]?=↑↑(.ro κ ps)):fK κ i f e=f e:=am (.inr ⟨_,h⟩)
def Fh{f:XF}(h:e[i]?=↑↑(.ag κ l ps)):xK κ i f e=f e:=am (.inl ⟨_,_,h⟩)
def MZ{f:XF}(h:e[i]?=↑↑(.ro κ ps)):xK κ i f e=f e:=am (.inr ⟨_,h⟩)
variable{r:k4×aP}{m:k9->k4->k6}{F:FA}
def AM(h:e[i]?=↑↑(.ro κ ps))(D:F e=↑r)(h2:r.2[i]?=↑↑(.ro κ ps)):iz m [i] F e=(m [(κ,ps)] r.1).map λd=>(d,r.2):=by
 unfold iz;rw[am (show dW e [i] from λk I=>by rw[dc.mp I];exact⟨_,h⟩),D];simp[eD,h2]
def Fi(h:e[i]?=↑↑(.ag κ l ps))(D:F e=↑r)(h2:r.2[i]?=↑↑(.ag κ l ps)):iz m [i] F e=(m [(κ,ps)] r.1).map λd=>(d,r.2):=by
 unfold iz;rw[am (show dW e [i] from λk I=>by rw[dc.mp I];exact⟨_,h⟩),D];simp[eD,h2]
def ph:iz m [] F e=(F e).bind λr=>(m [] r.1).map λd=>(d,r.2):=by
 unfold iz;rw[am (show dW e [] from λk D=>nomatch D)];rfl
variable{x:k9->k4->Option (Str×k9)}
def oy{x:k9->k4->ka}:j2 x [] F e=(F e).bind λr=>(x [] r.1).map λd=>(d,r.2):=by
 unfold j2;rw[am (show dW e [] from λk I=>nomatch I)];rfl
variable{d:D}{ps':k7}
def M_{m:k9->k4->la}(h:e[i]?=↑↑(.ag κ l ps))(I:F e=↑r)(h2:r.2[i]?=↑↑(.ag κ l ps))(S:m [(κ,ps)] r.1=↑(d,[(κ,ps')])):me m [i] F e=↑(d,r.2.set i ↑(.ag κ l ps')):=by
 unfold me;rw[am (show dW e [i] from λk U=>by rw[dc.mp U];exact⟨_,h⟩),I];simp[dV,h2,S,dJ]
def Na(h:e[i]?=↑↑(.ag κ l ps))(D:F e=↑r)(h2:r.2[i]?=↑↑(.ag κ l ps)){d:Str}(I:x [(κ,ps)] r.1=↑(d,[(κ,ps')])):pd x [i] F e=↑(d,r.2.set i ↑(.ag κ l ps')):=by
 unfold pd;rw[am (show dW e [i] from λk S=>by rw[dc.mp S];exact⟨_,h⟩),D];simp[dV,h2,I,dJ]
def Nb(h:e[i]?=↑↑(.ag κ l ps))(D:F e=↑r)(h2:r.2[i]?=↑↑(.ag κ l ps))(I:x [(κ,ps)] r.1=none):pd x [i] F e=none:=by
 unfold pd;rw[am (show dW e [i] from λk S=>by rw[dc.mp S];exact⟨_,h⟩),D];simp only[dV,h2,ah,ac,I];rfl
theorem AN(xs:k4)(x:D):bG (xs++[x]) (-1)=↑x:=by
 unfold bG eI;rw[bw (by decide),am (by simp;lia),show(-1+((xs++[x]).length:Int)).toNat=xs.length by simp;lia];simp
variable{k:lx}{s:Hs}
def vp:uf [hA k (p++[s])] []=↑(aG s.1):=by
 unfold uf bL;have h:mz (.at kH) 0 1 (kx 1 [hA k (p++[s])] [])=↑((p++[s]).map dC):=AJ (ps:=hP k (p++[s])) rfl rfl;simp[A4,mM,h,AN,dC];rfl
def qJ:vw [hA k (p++[s])] []=↑(bX s.2):=by
 unfold vw bL;have h:mz (.at kH) 0 1 (kx 1 [hA k (p++[s])] [])=↑((p++[s]).map dC):=AJ (ps:=hP k (p++[s])) rfl rfl;simp[A5,mM,h,AN,dC];rfl
def Nc:qB [hA k p] []=↑(.lst (k.map dD)):=by
 unfold qB bL;have h:mz (.at kH) 0 0 (kx 1 [hA k p] [])=↑(k.map dD):=AJ (ps:=hP k p) rfl rfl;simp[A7,sR,h]
theorem Nd(U:s.1.length<=1000):qC [hA k (p++[s])] []=↑(aG s.1):=by
 unfold qC bL;have c:=qz (te:=aJ (io qj (ak (aB 0) (aC)))) (base:=[]) (λs:ll=>D.lst (s.map sD)) (λs:ll=>D.lst (s.map sD)) s.1 λs _=>⟨_,by simp;rfl⟩;have S:cI (s.1.map λs=>D.lst (s.map sD)).length:=few (by rw[ai];lia);have I:(kx 1 [hA k (p++[s])] [])[0]?=↑↑(.ro kH (hP k (p++[s]))):=rfl;have h1:=AM (m:=uf) (F:=aC) I (r:=([],kx 1 [hA k (p++[s])] [])) rfl I;have h2:=uY (f:=iz uf [0] aC) I;simp[vp] at h1;simp only[A8,aK,aJ,jf,cP,h2,h1,ac,aG] at c ⊢;generalize (s.1.map λs=>D.lst (s.map sD))=L at *;simp[S,c]
def cH(sp:l0):Int:=match sp.getLast? with |none=>0 |some x=>x.2.1
theorem Nf(sp:l0):uF [bX sp]=↑↥(cH sp):=by
 unfold uF aR bX cH;cases h:sp.getLast? with
 |none =>
   rw[zw.mp h];simp[A1,ki]
 |some x =>
   obtain⟨q,rfl⟩:=zu.mp h;have I:ki 1 [D.lst ((q++[x]).map sD)]=[!.lst (q.map sD++[sD x])]:=by simp[ki]
   have h1:bG (q.map sD++[sD x]) (-1)=↑(sD x):=AN _ _;have h2:((q.map sD++[sD x]).length:Int)≠0:=by simp;lia
   rw[I];generalize q.map sD++[sD x]=L at *;have S:decide ((L.length:Int)=0)=false:=eg h2;simp only[A1,aE,aV,aI,aD,jh,ae,ac,fC,bU,ah,S,bx,ff,aM,aK,aF,gF,dN,bP,h1,sD,cS];rfl
def Ng:uO [hA k (p++[s])] []=↑↥(cH s.2):=by
 unfold uO bL;have D:(kx 1 [hA k (p++[s])] [])[0]?=↑↑(.ro kH (hP k (p++[s]))):=rfl;have h1:=AM (m:=vw) (F:=aC) D (r:=([],kx 1 [hA k (p++[s])] [])) rfl D;have h2:=uY (f:=iz vw [0] aC) D;simp[qJ] at h1;simp[A9,h2,h1,Nf]
theorem zd{a:Int}(h1:1<=a)(h2:a<=ss.length):vy [] [aG ss,↥a]=none/\x9 [] [aG ss,↥a]=some .non:=by
 have e:kx 2 [] [aG ss,↥a]=[!aG ss,!↥a]:=rfl;have l:((ss.map λs=>D.lst (s.map sD)).length:Int)=ss.length:=by rw[ai]
 unfold vy x9 xQ bL;rw[am ⟨rfl,rfl⟩,am ⟨rfl,rfl⟩,e];unfold aG at *;generalize (ss.map λs=>D.lst (s.map sD))=L at *;simp[pX,show ¬a<1 by lia,show ¬((L.length:Int)<a) by lia]
theorem uZ{a:Int}(h:a<1\/ss.length<a):vy [] [aG ss,↥a]=↑("UnknownStack" : Str):=by
 have e:kx 2 [] [aG ss,↥a]=[!aG ss,!↥a]:=rfl;have l:((ss.map λs=>D.lst (s.map sD)).length:Int)=ss.length:=by rw[ai]
 unfold vy xQ;rw[am ⟨rfl,rfl⟩,e];unfold aG at *;generalize (ss.map λs=>D.lst (s.map sD))=L at *;by_cases h1:a<1
 ·simp[pX,h1,mj]
 ·simp[pX,h1,show((L.length:Int)<a) by lia,mj]
variable{h:Int}
theorem Fj(h1:1<=h)(h2:h<=60):mZ [] [↥h]=none/\uI [] [↥h]=some .non:=by
 unfold mZ uI xQ bL;rw[am ⟨rfl,rfl⟩,am ⟨rfl,rfl⟩,show kx 1 [] [↥h]=[!↥h] from rfl];simp[pY,show ¬h<1 by lia,show ¬60<h by lia]
theorem Nh(D:h<1\/60<h):mZ [] [↥h]=↑("BadHours" : Str):=by
 unfold mZ xQ;rw[am ⟨rfl,rfl⟩,show kx 1 [] [↥h]=[!↥h] from rfl];by_cases h1:h<1
 ·simp[pY,h1,mj,vInt]
 ·simp[pY,h1,show 60<h by lia,mj,vInt]
theorem u_(h1:0<=h)(h2:h<=100):zp [] [↥h]=none/\p_ [] [↥h]=some .non:=by
 unfold zp p_ xQ bL;rw[am ⟨rfl,rfl⟩,am ⟨rfl,rfl⟩,show kx 1 [] [↥h]=[!↥h] from rfl];simp[pZ,show ¬h<0 by lia,show ¬100<h by lia]
theorem Fk(D:h<0\/100<h):zp [] [↥h]=↑("BadLoss" : Str):=by
 unfold zp xQ;rw[am ⟨rfl,rfl⟩,show kx 1 [] [↥h]=[!↥h] from rfl];by_cases h1:h<0
 ·simp[pZ,h1,mj,vInt]
 ·simp[pZ,h1,show 100<h by lia,mj,vInt]
theorem Ni(h1:0<=h)(h2:h<=5):uH [] [↥h]=none/\uG [] [↥h]=some .non:=by
 unfold uH uG xQ bL;rw[am ⟨rfl,rfl⟩,am ⟨rfl,rfl⟩,show kx 1 [] [↥h]=[!↥h] from rfl];simp[A2,show ¬h<0 by lia,show ¬5<h by lia]
theorem Fm(ss:ln)(D:ss.length<=1000):(if ss.flatten.length<14 then m_ [] [aG ss]=none/\uK [] [aG ss]=some .non else m_ [] [aG ss]=↑("HouseFull" : Str)):=by
 have h:=EY ss D;generalize ss.flatten.length=n at *;split <;> rename_i I
 ·unfold m_ uK xQ bL
  rw[am ⟨rfl,rfl⟩,am ⟨rfl,rfl⟩,show kx 1 [] [aG ss]=[!aG ss] from rfl];simp[uJ,h,show ¬(14:Int)<=(n:Int) by lia]
 ·unfold m_ xQ
  rw[am ⟨rfl,rfl⟩,show kx 1 [] [aG ss]=[!aG ss] from rfl];simp[uJ,h,show(14:Int)<=(n:Int) by lia,mj,vInt]
theorem xw(ds:k4):(if ds.length<60 then xg [] [.lst ds]=none/\zm [] [.lst ds]=some .non else xg [] [.lst ds]=↑("DeedsFull" : Str)):=by
 split <;> rename_i I
 ·unfold xg zm xQ bL
  rw[am ⟨rfl,rfl⟩,am ⟨rfl,rfl⟩,show kx 1 [] [.lst ds]=[!.lst ds] from rfl];simp[uL,show ¬(60:Int)<=(ds.length:Int) by lia]
 ·unfold xg xQ
  rw[am ⟨rfl,rfl⟩,show kx 1 [] [.lst ds]=[!.lst ds] from rfl];simp[uL,show(60:Int)<=(ds.length:Int) by lia,mj,vInt]
def lz(k:lx):Int:=1+(k.filter eE.isPut).length
theorem Nj(k:lx)(S:k.length<=1000):uM [.lst (k.map dD)]=↑↥(lz k):=by
 have c:=oS (tt:=aI (aD bU (aF 0 [:0]) (fC (.str "put")))) (te:=aB 0) (base:=[]) dD dD eE.isPut k λx _=>by
  cases x with
  |put a h l=>exact⟨_,rfl,λ_=>⟨_,rfl⟩⟩
  |tell a p l=>exact⟨_,rfl,λz=>nomatch z⟩
  |go a=>exact⟨_,rfl,λz=>nomatch z⟩ |dry=>exact⟨_,rfl,λz=>nomatch z⟩
 have I:cI (k.map dD).length:=few (by rw[ai];lia);unfold uM aR;rw[am (show[D.lst (k.map dD)].length=1 from rfl),show ki 1 [D.lst (k.map dD)]=[!.lst (k.map dD)] from rfl];unfold lz;generalize k.map dD=L at *;simp[Fb,jf,I,c]
def gW:fK κ 0 f (↑(.ag κ l ps)::e)=f (↑(.ag κ l ps)::e):=AL rfl
def AO:fK κ 0 f (↑(.ro κ ps)::e)=f (↑(.ro κ ps)::e):=uY rfl
variable{sl:Sl}
def gM:iz m [0] F (↑sl::e)=(F (↑sl::e)).bind λr=>(eD r.2 [0]).bind λags=>(m ags r.1).map λd=>(d,r.2):=am λk D=>by rw[dc.mp D];exact⟨_,rfl⟩
def vc{m:k9->k4->la}:me m [0] F (↑sl::e)=(F (↑sl::e)).bind λr=>(dV r.2 [0]).bind λags=>(m ags r.1).bind λq=>if q.2.map (·.1)=ags.map (·.1) then ↑(q.1,dJ r.2 [0] q.2) else none:=am λk I=>by rw[dc.mp I];exact⟨_,rfl⟩
def vl:dV (↑(.ag κ l ps)::e) [0]=↑[(κ,ps)]:=rfl
variable{κ':AK}
def vr:dJ (↑(.ag κ l ps)::e) [0] [(κ',ps')]=↑(.ag κ' l ps')::e:=rfl
def o8:eD (↑(.ag κ l ps)::e) [0]=↑[(κ,ps)]:=rfl
def Nk:eD (↑(.ro κ ps)::e) [0]=↑[(κ,ps)]:=rfl
def xj:tm kH 0 0 (frz true (↑(.ag kH l (hP k p))::e))=↑(.lst (k.map dD),frz true (↑(.ag kH l (hP k p))::e)):=by
 unfold tm;rw[am (show jT kH (frz true (↑(.ag kH l (hP k p))::e)) 0 from .inr ⟨[.d (.lst (k.map dD)),.d (.lst (p.map dC))],rfl⟩)];rfl
variable{r:Nat}
def Fn(h:e[i]?=↑↑(.ag κ ↑r ps))(I:∀c fs,κ≠.ins true c fs)(D:ps[j]?=↑(.o ds))(S:f e=↑(d,e))(U:cI (ds.length+1)) :
  vm (.at κ) i j f e=↑(.non,e.set i ↑(.ag κ ↑r (ps.set j (.o (ds++[d]))))):=by
 unfold vm;rw[h];dsimp only;rw[am (show jJ κ ↑r from⟨rfl,I⟩),Fg h D,ac,S,ac];unfold kI;rw[h];dsimp only;rw[D];dsimp only;rw[am ⟨rfl,rfl,rfl,U⟩];unfold setP;rw[h]
theorem vu{d:eE}{sp:l0}(D:k.length<=1000)(I:p.length<=1000):u5 [hA k p] [dD d,aG ss,bX sp]=↑(.non,[hA (k++[d]) (p++[(ss,sp)])]):=by
 have h1:=Fn (e:=[↑(.ag kH ↑0 (hP k p)),!dD d,!aG ss,!bX sp]) (i:=0) (j:=0) (f:=aB 1) rfl (λc fs z=>nomatch z) rfl rfl (few (by rw[ai];lia));have h2:=Fn (e:=[↑(.ag kH ↑0 ((hP k p).set 0 (.o (k.map dD++[dD d])))),!dD d,!aG ss,!bX sp]) (i:=0) (j:=1) (f:=aW (ak (aB 2) (ak (aB 3) aC))) (ds:=p.map dC) rfl (λc fs z=>nomatch z) rfl rfl (few (by rw[ai];lia));unfold u5 dB;rw[am ⟨rfl,rfl⟩,show lr 4 [hA k p] [dD d,aG ss,bX sp]=[↑(.ag kH ↑0 (hP k p)),!dD d,!aG ss,!bX sp] from rfl];simp[A6,h1,h2];unfold hA hP;rw[cr,cr];rfl
def fS(ss:ln)(n:Nat)(a h l:Int):ka:=if a<1\/(ss.length:Int)<a then some "UnknownStack" else if h<1\/60<h then some "BadHours" else if l<0\/100<l then some "BadLoss" else if ss.flatten.length<14 then(if n<60 then none else some "DeedsFull") else some "HouseFull"
def gC(ss:ln)(a:Nat)(x:Sk):ln:=ss.set (a-1) (x::ss.getD (a-1) [])
theorem Nl{l:Int}(I:fS s.1 k.length a h l=none)(q:s.1.length<=5)(r:p.length<=100) :
  nb [hA k (p++[s])] [↥a,↥h,↥l]=none/\qA [hA k (p++[s])] [↥a,↥h,↥l]=↑(.int (lz k),[hA (k++[.put a h l]) (p++[s]++[(gC s.1 a (lz k,h,l),s.2)])]):=by
 unfold fS at I;split at I
 ·cases I
 split at I
 ·cases I
 split at I
 ·cases I
 split at I;case isFalse=>cases I
 rename_i b;split at I;case isFalse=>cases I
 rename_i c;have k1:=zd (ss:=s.1) (a:=a) ∅ ∅;have k2:=Fj (h:=h) ∅ ∅;have k3:=u_ (h:=l) ∅ ∅;have Z:=Fm s.1 ∅;rw[am b] at Z;have k5:=xw (k.map dD);rw[am (by rw[ai];exact c)] at k5;have e:=Nj k ∅;have S:(a-1:Nat)<s.1.length:=by lia
 have f:bG (s.1.map λs=>D.lst (s.map sD)) ((a:Int)-1)=↑(.lst ((s.1.getD (a-1) []).map sD)):=by
  rw[show(a:Int)-1=((a-1:Nat):Int) by lia,mi (λs:ll=>D.lst (s.map sD)) (bc S),cj,bc S];rfl
 have g:=A0 (ss:=s.1) (a:=a) ((lz k,h,l)::s.1.getD (a-1) []) ∅ ∅ ∅;have i:=vu (k:=k) (p:=p++[s]) (d:=.put a h l) (ss:=gC s.1 a (lz k,h,l)) (sp:=s.2) ∅ (by simp;lia);have j:=vp (k:=k) (p:=p) (s:=s);have m:=qJ (k:=k) (p:=p) (s:=s);have n:cI (0+1+((s.1.getD (a-1) []).map sD).length):=few (by
  have:(s.1.getD (a-1) []).length<=s.1.flatten.length:=by
   rw[cj,bc S];exact(gc (ig S)).length_le
  rw[ai];lia)
 have o:lr 7 [hA k (p++[s])] [↥a,↥h,↥l]=[↑(.ag kH ↑0 (hP k (p++[s]))),!↥a,!↥h,!↥l,none,none,none]:=rfl;have V:u5 [(kH,hP k (p++[s]))] [.tup [.str "put",↥a,↥h,↥l],aG (gC s.1 a (lz k,h,l)),bX s.2]=↑(.non,[hA (k++[.put a h l]) (p++[s]++[(gC s.1 a (lz k,h,l),s.2)])]):=i;have Y:mT [aG s.1,↥a,.lst (.tup [↥(lz k),↥h,↥l]::(s.1.getD (a-1) []).map sD)]=↑(aG (gC s.1 a (lz k,h,l))):=g;have U:wx (lr 7 [hA k (p++[s])] [↥a,↥h,↥l])=↑(.rt ↥(lz k),[↑(.ag kH ↑0 (hP (k++[.put a h l]) (p++[s]++[(gC s.1 a (lz k,h,l),s.2)]))),!↥a,!↥h,!↥l,!aG s.1,!↥(lz k),!(.lst (.tup [↥(lz k),↥h,↥l]::(s.1.getD (a-1) []).map sD))]):=by
  rw[o];generalize (s.1.getD (a-1) []).map sD=TL at *;unfold aG at *;simp[wx,gW,gM,o8,j,oy,ph,k1,k2,k3,Z,fH,cZ,xj,k5,noL,e,f,n,vc,vl,Y,m,V,vr]
 exact⟨by unfold nb xL;rw[am ⟨rfl,rfl⟩,U],by unfold qA dB;rw[am ⟨rfl,rfl⟩,U];rfl⟩
def eT(n:Nat):Hs:=(List.replicate n [],[])
theorem Nm(a:n<=5):A3 [(.ins true "House" [],[])] [↥n]=none/\qq [(.ins true "House" [],[])] [↥n]=↑(.non,[(.ins true "House" jm,hP [] [eT n])]):=by
 have k1:=Ni (h:=n) ∅ ∅;have S:cI (bS 0 n).length:=few (by rw[x8];lia);have c:=qz (te:=aJ (gi aC)) (base:=[]) (λi:Nat=>D.int (0+(i:Int))) (λ_:Nat=>D.lst []) (List.range n) λi _=>⟨_,rfl⟩;have U:=qb n ∅;have V:lr 2 [(AK.ins true "House" [],[])] [↥n]=[↑(.ag (.ins true "House" []) ↑0 []),!↥n]:=rfl;have Y:(List.range n).map (λ_=>D.lst [])=(List.replicate n ([]:ll)).map λs=>D.lst (s.map sD):=by
  rw[List.map_const',j9,qp,dw]
 have I:uN (lr 2 [(AK.ins true "House" [],[])] [↥n])=↑(.nx,[↑(.ag (.ins true "House" jm) ↑0 (hP [] [eT n])),!↥n]):=by
  rw[V];unfold bS at U S;rw[Y] at c;have Z:(True/\(Str.ofString "kept")∉([]:h6)/\0<900):=⟨trivial,by simp,by decide⟩;simp only[uN,aE,cA,oy,ph,ak,aB,aC,af,ae,ac,k1,nk,ah,je,p6,gi,bq,ie,dm,av,lj,aW,aJ,jf,io,U,S,c,dw,ao,show 0+1+1<=64 by decide,show 0+1<=64 by decide];rw[am Z];simp only[ac,af,ae,U,S,c,dm,ah,ao,bq,show 0+1+1<=64 by decide,show 0+1<=64 by decide];rfl
 exact⟨by unfold A3 xL;rw[am ⟨rfl,rfl⟩,I],by unfold qq dB;rw[am ⟨rfl,rfl⟩,I];rfl⟩
def No(D:n<=5)(I:F e=↑([↥n],e')):pw "House" qq F e=↑((kH,hP [] [eT n]),e'):=by
 unfold pw;rw[I,ac,(Nm D).2];rfl
def AQ(h:e[i]?=↑↑(.ag kH l (hP k p))):(frz false e)[i]?=↑↑(.ro kH (hP k p)):=by
 unfold frz;rw[cb,h];rfl
def Np(h:e[i]?=↑↑(.ag kH l (hP k p))):fK kH i (iz m [i] aC) (frz false e)=(m [hA k p] []).map λd=>(d,frz false e):=by
 rw[uY (AQ h)];exact AM (AQ h) (r:=([],frz false e)) rfl (AQ h)
def Nq(h:e[i]?=↑↑(.ag kH l (hP k p))):fK kH i (iz m [i] aC) e=(m [hA k p] []).map λd=>(d,e):=by
 rw[AL h];exact Fi h (r:=([],e)) rfl h
variable{m:k9->k4->Option (Str×k9)}
def yw{m:k9->k4->la}(h:e[i]?=↑↑(.ag κ l ps))(I:F e=↑(ds,e))(S:m [(κ,ps)] ds=↑(d,[(κ,ps')])):me m [i] F e=↑(d,e.set i ↑(.ag κ l ps')):=M_ h (r:=(ds,e)) I h S
def Fo{d:Str}(h:e[i]?=↑↑(.ag κ l ps))(D:F e=↑(ds,e))(I:m [(κ,ps)] ds=↑(d,[(κ,ps')])):pd m [i] F e=↑(d,e.set i ↑(.ag κ l ps')):=Na h (r:=(ds,e)) D h I
def Fp(h:e[i]?=↑↑(.ag κ l ps))(D:F e=↑(ds,e))(I:m [(κ,ps)] ds=none):pd m [i] F e=none:=Nb h (r:=(ds,e)) D h I
def kL:D->Prop | .int _=>True | .str _=>True |_=>False
theorem qK(xs:k4)(U:∀x∈xs,kL x)(Y:xs.length<=1000):vz [.tup xs,.tup xs]=↑(.bl true):=by
 obtain⟨e',h1,v2,rfl⟩:=u4 (i:=2) (g:=zt) (λk e=>∃v2,e=[!.tup xs,!.tup xs,v2]) (bS 0 xs.length) [!.tup xs,!.tup xs,none] ⟨none,rfl⟩ (by
  rintro k d e hd ⟨v2,rfl⟩;obtain⟨rfl,I⟩:=uv hd;have S:bG xs (k:Int)=↑xs[k]:=by
   unfold bG;rw[wp ∅ ∅];simp[I]
  have V:=U _ (ig I);generalize xs[k]=x at *;cases x with
  |int i=>simp[zt,S,Ew]
  |str i=>simp[zt,S]
  |_=>exact V.elim)
 have hi:=qb xs.length ∅;refine mf (e':=?w) rfl ?h;show pJ [!.tup xs,!.tup xs,none]=_;simp[pJ,hi,h1];rfl
theorem Nr(I:List k4)(Z:I.length<=1000)(U:∀x∈I,(∀y∈x,kL y)/\x.length<=1000):yb [.lst (I.map D.tup),.lst (I.map D.tup)]=↑(.bl true):=by
 obtain⟨e',h1,v2,rfl⟩:=u4 (i:=2) (g:=pK) (λk e=>∃v2,e=[!.lst (I.map D.tup),!.lst (I.map D.tup),v2]) (bS 0 I.length) [!.lst (I.map D.tup),!.lst (I.map D.tup),none] ⟨none,rfl⟩ (by
  rintro k d e hd ⟨v2,rfl⟩;obtain⟨rfl,S⟩:=uv hd;have V:bG (I.map D.tup) (k:Int)=↑(.tup I[k]):=mi D.tup (by simp[S]);have Y:=qK I[k] (U _ (ig S)).1 (U _ (ig S)).2;exact⟨[!.lst (I.map D.tup),!.lst (I.map D.tup),!↥(0+k)],by simp[pK,V,Y],_,rfl⟩)
 have hi:=qb I.length ∅;refine mf (e':=?w) rfl ?h;show pL [!.lst (I.map D.tup),!.lst (I.map D.tup),none]=_;simp[pL,hi,h1];rfl
def dR:eE->k4
 | .put a h l=>[.str "put",↥a,↥h,↥l]
 | .tell a p l=>[.str "tell",↥a,↥p,↥l]
 | .go a=>[.str "go",↥a] | .dry=>[.str "dry"]
def AR(d:eE):dD d=.tup (dR d):=by cases d <;> rfl
def Nt(d:eE):(∀y∈dR d,kL y)/\(dR d).length<=1000:=by
 cases d <;> simp[dR,kL]
def Nu(k:lx)(I:k.length<=1000):yb [.lst (k.map dD),.lst (k.map dD)]=↑(.bl true):=by
 have:=Nr (k.map dR) (by rw[ai];exact I) λx S=>by
  obtain⟨d,_,rfl⟩:=f7.mp S;exact Nt d
 rw[gg] at this;rwa [show k.map dD=k.map (D.tup ∘ dR) from jt λd _=>AR d]
theorem Fq(ss:ln)(D:ss.length<=1000):(if 0<ss.flatten.length then nn [] [aG ss]=none/\uQ [] [aG ss]=some .non else nn [] [aG ss]=↑("NothingWaits" : Str)):=by
 have h:=EY ss D;generalize ss.flatten.length=n at *;split <;> rename_i I
 ·unfold nn uQ xQ bL
  rw[am ⟨rfl,rfl⟩,am ⟨rfl,rfl⟩,show kx 1 [] [aG ss]=[!aG ss] from rfl];simp[uP,h,show ¬n=0 by lia]
 ·unfold nn xQ
  rw[am ⟨rfl,rfl⟩,show kx 1 [] [aG ss]=[!aG ss] from rfl];simp[uP,h,show n=0 by lia,mj]
def eN(s:Hs)(a:Nat)(x:Sk)(tl:ll):Hs:=(s.1.set (a-1) tl,s.2++[(cH s.2,cH s.2+x.2.1,a_ s.1.flatten)])
variable{x:Sk}{tl:ll}
theorem Nv(Z:ya [aG s.1]=↑(iD (a::os)))(U:s.1[a-1]?=↑(x::tl))(V:1<=a)(b:k.length<60)(r:s.1.length<=5)(t:p.length<=100)(c:∀y∈s.1,y.length<=1000)(e:s.2.length<=1000)(f:0<s.1.flatten.length) :
  nq [hA k (p++[s])] []=none/\qD [hA k (p++[s])] []=↑(sD x,[hA (k++[.dry]) (p++[s]++[eN s a x tl])]):=by
 have k1:=Fq s.1 ∅;rw[am f] at k1;have k5:=xw (k.map dD);rw[am (by rw[ai];exact b)] at k5;have g:=EZ U V;have h:=Fa U V ∅;have i:=MA s.1 c;have j:u5 [(kH,hP k (p++[s]))] [.tup [.str "dry"],aG (s.1.set (a-1) tl),.lst (s.2.map sD++[.tup [↥(cH s.2),↥(cH s.2+x.2.1),↥(a_ s.1.flatten)]])]=↑(.non,[hA (k++[.dry]) (p++[s]++[eN s a x tl])]):=by
  have:=vu (k:=k) (p:=p++[s]) (d:=.dry) (ss:=s.1.set (a-1) tl) (sp:=s.2++[(cH s.2,cH s.2+x.2.1,a_ s.1.flatten)]) ∅ (by simp;lia);unfold bX at this;rw[cr] at this;exact this
 have l:=vp (k:=k) (p:=p) (s:=s);have Y:=qJ (k:=k) (p:=p) (s:=s);have m:=Ng (k:=k) (p:=p) (s:=s);have kd:rq [sD x]=↑↥x.2.1:=ER x;have o:cI ((s.2.map sD).length+(0+1)):=few (by rw[ai];lia);have S:bG (iD (a::os)) 0=↑↥(a:Int):=by unfold iD;exact mi (k:=0) (λn:Nat=>D.int (n:Int)) rfl
 have q:lr 6 [hA k (p++[s])] []=[↑(.ag kH ↑0 (hP k (p++[s]))),none,none,none,none,none]:=rfl;have I:∃e',np (lr 6 [hA k (p++[s])] [])=↑(.rt (sD x),↑(.ag kH ↑0 (hP (k++[.dry]) (p++[s]++[eN s a x tl])))::e'):=by
  rw[q];unfold bX at Y;generalize s.2.map sD=SP at *;simp[np,gW,gM,o8,l,oy,ph,k1,fH,cZ,xj,k5,noL,g,Z,S,m,kd,i,h,Y,o,vc,vl,j,vr]
 obtain⟨e',I⟩:=I;exact⟨by unfold nq xL;rw[am ⟨rfl,rfl⟩,I],by unfold qD dB;rw[am ⟨rfl,rfl⟩,I];rfl⟩
def yk:Int->l0->Prop
 |_,[]=>True |b,x::r=>x.1=b/\x.1<=x.2.1/\yk x.2.1 r
def vd:Int->l0->Int
 |b,[]=>b |_,x::r=>vd x.2.1 r
def AS:∀(sp:l0) (b:Int) (x:uX),vd b (sp++[x])=x.2.1
 | [],_,_=>rfl |y::r,_,x=>AS r y.2.1 x
def AT(sp:l0):cH sp=vd 0 sp:=by
 unfold cH;cases h:sp.getLast? with
 |none=>rw[zw.mp h];rfl |some x=>obtain⟨q,rfl⟩:=zu.mp h;rw[AS]
def Fs:∀(sp:l0) (b:Int) (x:uX),yk b sp->x.1=vd b sp->x.1<=x.2.1->yk b (sp++[x])
 | [],_,_,_,h,h2=>⟨h,h2,trivial⟩ |y::r,_,x,hc,h,h2=>⟨hc.1,hc.2.1,Fs r _ x hc.2.2 h h2⟩
def gE(sp:l0):ik:=(sp.map λx=>List.replicate (x.2.1-x.1).toNat x.2.2).flatten
theorem AU:∀(sp:l0) (b:Int),yk b sp->((gE sp).length:Int)=vd b sp-b
 | [],b,_=>by show(0:Int)=b-b;lia |x::r,b,hc=>by
   have D:=AU r _ hc.2.2;have e:gE (x::r)=List.replicate (x.2.1-x.1).toNat x.2.2++gE r:=rfl;rw[e,ax,fy];have:=hc.1;have:=hc.2.1;show _=vd x.2.1 r-b
   lia
theorem Nw(ss:ln)(V:ss.length<=1000)(U:∀s∈ss,s.length<=1000):uR [aG ss]=↑↥(a_ ss.flatten):=by
 have c:=qz (te:=d5 fE (ak (aJ (jf (cP (aB 0)) [] b_ (aF 0 [:2]))) (aC))) (base:=[]) (λs:ll=>D.lst (s.map sD)) (λs:ll=>D.int (s.map λx:Sk=>x.2.2).sum) ss λs Y=>by
  have Z:=qz (te:=aF 0 [:2]) (base:=[]) sD (λx:Sk=>D.int x.2.2) s λx _=>⟨_,by simp[sD,oU];rfl⟩;have I:=mV (λx:Sk=>x.2.2) s;have S:cI (s.map sD).length:=few (by rw[ai];have:=U s Y;lia);generalize s.map sD=L at *;exact⟨_,by simp[jf,S,Z,I];rfl⟩
 have I:=mV (λs:ll=>(s.map λx:Sk=>x.2.2).sum) ss;have S:cI (ss.map λs=>D.lst (s.map sD)).length:=few (by rw[ai];lia);have b:(ss.map λs:ll=>(s.map λx:Sk=>x.2.2).sum).sum=a_ ss.flatten:=by
  clear c I S V U;induction ss with
  |nil=>rfl |cons a l ih=>rw[b9,gn,ih,eh,vj];rfl
 rw[b] at I;refine mf (e':=[!aG ss]) rfl ?_;show AA [!aG ss]=_;unfold aG;generalize (ss.map λs=>D.lst (s.map sD))=L at *;simp[AA,jf,S] at c ⊢;simp[c,I]
def Ft(a b:l0):gE (a++b)=gE a++gE b:=by simp[gE]
theorem Nx(sp:l0)(I:yk b sp)(j:vd b sp-b<=100000):AC [bX sp]=↑(.lst ((gE sp).map D.int)):=by
 have a:=AU sp b I;obtain⟨e',Y,v2,U,V,rfl⟩:=pT (ix:=[2,3,4]) (g:=uS) (λx:uX=>[D.int x.1,↥x.2.1,↥x.2.2]) (λp e=>∃v2 U V,e=[!bX sp,!.lst ((gE p).map D.int),v2,U,V]) sp
  [!bX sp,!.lst [],none,none,none] ⟨none,none,none,rfl⟩ (λ_ _=>rfl) (by
   rintro p x q e S ⟨v2,U,V,rfl⟩;have c:(gE p).length+(x.2.1-x.1).toNat<=100000:=by
    have:(gE sp).length=(gE p).length+((x.2.1-x.1).toNat+(gE q).length):=by rw[S,Ft,ax];congr 1;show(List.replicate _ _++gE q).length=_;simp
    lia
   have Z:iW (-(2 ^ 62)) (2 ^ 62) (x.2.1-x.1):=by
    have:-100000<=x.2.1-x.1:=by
     have d:∀(l:l0) (b:Int),yk b l->x∈l->x.1<=x.2.1:=by
      intro l;induction l with
      |nil=>intro b _ h;cases h
      |cons y r ih=>intro b I h;rcases b6.mp h with rfl |h;exact I.2.1;exact ih _ I.2.2 h
     have:=d sp b I (by rw[S];simp)
     lia
    exact⟨by lia,by lia⟩
   have f:cI ((0+1)*(x.2.1-x.1).toNat):=by show _<=_;lia
   have f2:cI (((gE p).map D.int).length+(List.replicate (x.2.1-x.1).toNat (D.int x.2.2)).length):=by show _<=_;rw[ai,fy];lia
   have i:(gE (p++[x])).map D.int=(gE p).map D.int++List.replicate (x.2.1-x.1).toNat (D.int x.2.2):=by rw[Ft,cr,show gE [x]=List.replicate (x.2.1-x.1).toNat x.2.2 by simp[gE],qp]
   refine⟨[!bX sp,!.lst ((gE (p++[x])).map D.int),!↥x.1,!↥x.2.1,!↥x.2.2],?_,_,_,_,rfl⟩;rw[i];simp only[wm,uS,aH,aJ,bW,iO,gi,ak,aC,aB,aD,aZ,ae,af,ac,ah,av,aw,ao,bq,show 0+1<=64 by decide,dm,f,Z,and_self,EH,f2])
 have Y:gI [2,3,4] uS (sp.map sD) [!bX sp,!.lst [],none,none,none]=_:=Y;refine mf (e':=[!bX sp,!.lst ((gE sp).map D.int),v2,U,V]) rfl ?_;show AB [!bX sp,none,none,none,none]=_;unfold bX at *;simp[AB,Y]
variable{t:ll}
theorem vx(h:ss[a-1]?=↑t)(I:1<=a)(S:ss.length<=1000):(if t.length=0 then zo [] [aG ss,↥(a:Int)]=↑("EmptyStack" : Str) else zo [] [aG ss,↥(a:Int)]=none/\qF [] [aG ss,↥(a:Int)]=some .non):=by
 have h1:=ve h I;have U:=(aj.mp h).1;have e:kx 2 [] [aG ss,↥(a:Int)]=[!aG ss,!↥(a:Int)]:=rfl;have D:((t.map sD).length:Int)=t.length:=by rw[ai]
 generalize t.map sD=T at *;split <;> rename_i V
 ·unfold zo xQ
  rw[am ⟨rfl,rfl⟩,e];unfold aG;have c:decide ((T.length:Int)=0)=true:=l3 ∅;simp only[uV,aV,aI,aD,d5,ak,aF,bP,aB,fC,aC,aZ,ae,af,ac,ah,h1,dO,bU,c,dm,mj,vInt,show((a:Int)).natAbs<1000000 by lia]
 ·unfold zo qF xQ bL
  rw[am ⟨rfl,rfl⟩,am ⟨rfl,rfl⟩,e];unfold aG;have c:decide ((T.length:Int)=0)=false:=eg ∅;simp only[uV,aV,aI,aD,d5,ak,aF,bP,aB,fC,aC,aZ,ae,af,ac,ah,h1,dO,bU,c,bx,ff,aM,and_self]
def AV(s:Hs)(a:Nat)(tl:ll):Hs:=(s.1.set (a-1) tl,s.2)
theorem Ny(I:s.1[a-1]?=↑(x::tl))(S:1<=a)(U:k.length<60)(f:s.1.length<=5)(g:p.length<=100) :
  nw [hA k (p++[s])] [↥(a:Int)]=none/\qG [hA k (p++[s])] [↥(a:Int)]=↑(sD x,[hA (k++[.go a]) (p++[s]++[AV s a tl])]):=by
 have h:=(aj.mp I).1;have k1:=zd (ss:=s.1) (a:=a) ∅ ∅;have k2:=vx I S ∅;rw[bw ⋯] at k2;have k5:=xw (k.map dD);rw[am (by rw[ai];exact U)] at k5;have V:=EZ I S;have Y:=Fa I S ∅;have Z:u5 [(kH,hP k (p++[s]))] [.tup [.str "go",↥(a:Int)],aG (s.1.set (a-1) tl),bX s.2]=↑(.non,[hA (k++[.go a]) (p++[s]++[AV s a tl])]):=vu (k:=k) (p:=p++[s]) (d:=.go a) (ss:=s.1.set (a-1) tl) (sp:=s.2) ∅ (by simp;lia);have b:=vp (k:=k) (p:=p) (s:=s);have c:=qJ (k:=k) (p:=p) (s:=s);have e:lr 3 [hA k (p++[s])] [↥(a:Int)]=[↑(.ag kH ↑0 (hP k (p++[s]))),!↥(a:Int),none]:=rfl;have D:zh (lr 3 [hA k (p++[s])] [↥(a:Int)])=↑(.rt (sD x),[↑(.ag kH ↑0 (hP (k++[.go a]) (p++[s]++[AV s a tl]))),!↥(a:Int),!aG s.1]):=by
  rw[e];generalize bX s.2=SP at *;simp[zh,gW,gM,o8,b,oy,ph,k1,k2,fH,cZ,xj,k5,noL,V,Y,c,vc,vl,Z,vr]
 exact⟨by unfold nw xL;rw[am ⟨rfl,rfl⟩,D],by unfold qG dB;rw[am ⟨rfl,rfl⟩,D];rfl⟩
theorem Fu{m:Int}:(if m<1\/(t.length:Int)<m then n0 [] [.lst (t.map sD),↥m]=↑("UnknownPlace" : Str) else n0 [] [.lst (t.map sD),↥m]=none/\uW [] [.lst (t.map sD),↥m]=some .non):=by
 have e:kx 2 [] [.lst (t.map sD),↥m]=[!.lst (t.map sD),!↥m]:=rfl;have D:((t.map sD).length:Int)=t.length:=by rw[ai]
 generalize t.map sD=T at *;split <;> rename_i I
 ·unfold n0 xQ
  rw[am ⟨rfl,rfl⟩,e];by_cases h1:m<1
  ·simp[qH,h1,mj]
  ·simp[qH,h1,show(T.length:Int)<m by lia,mj]
 ·unfold n0 uW xQ bL
  rw[am ⟨rfl,rfl⟩,am ⟨rfl,rfl⟩,e];simp[qH,show ¬m<1 by lia,show ¬(T.length:Int)<m by lia]
def Nz(x:Sk)(l:Int):AI [sD x,↥l]=↑(sD (x.1,x.2.1,l)):=by
 rfl
theorem N0{m:Nat}{l:Int}(S:s.1[a-1]?=↑t)(V:t[m-1]?=↑x)(U:1<=a)(B:1<=m)(f:0<=l)(h1:l<=100)(g:k.length<60)(C:s.1.length<=5)(i:t.length<=1000)(E:p.length<=100) :
  n2 [hA k (p++[s])] [↥(a:Int),↥(m:Int),↥l]=none/\qI [hA k (p++[s])] [↥(a:Int),↥(m:Int),↥l]=↑(.int x.2.2,[hA (k++[.tell a m l]) (p++[s]++[(s.1.set (a-1) (t.set (m-1) (x.1,x.2.1,l)),s.2)])]):=by
 have F:=(aj.mp S).1;have G:=(aj.mp V).1;have k1:=zd (ss:=s.1) (a:=a) ∅ ∅;have k2:=vx S U ∅;rw[bw ∅] at k2;have k3:=Fu (t:=t) (m:=m);rw[bw ∅] at k3;have j:=u_ (h:=l) f h1;have k5:=xw (k.map dD);rw[am (by rw[ai];exact g)] at k5;have n:=ve S U;have o:bG (t.map sD) ((m:Int)-1)=↑(sD x):=by
  rw[show(m:Int)-1=((m-1:Nat):Int) by lia];exact mi sD V
 have b:=A0 (ss:=s.1) (a:=a) (t.set (m-1) (x.1,x.2.1,l)) U ∅ ∅;have H:(t.map sD).length=t.length:=ai ..;have c:=Az (t.map sD) (m-1) ∅;rw[show((m-1:Nat):Int)=(m:Int)-1 by lia] at c;have q:=pW (t.map sD) m ∅;have e:=E_ (t.map sD) (m-1) (sD (x.1,x.2.1,l)) ∅;rw[show m-1+1=m by lia] at e;have r:cI (((t.map sD).take (m-1)).length+(0+1)):=few (by simp only[d8];lia);have f2:cI (((t.map sD).take (m-1)++[sD (x.1,x.2.1,l)]).length+((t.map sD).drop m).length):=few (by simp[d8,fu];lia);have u:(t.set (m-1) (x.1,x.2.1,l)).map sD=(t.map sD).set (m-1) (sD (x.1,x.2.1,l)):=jq ..;rw[u,<-e] at b;have v:u5 [(kH,hP k (p++[s]))] [.tup [.str "tell",↥(a:Int),↥(m:Int),↥l],aG (s.1.set (a-1) (t.set (m-1) (x.1,x.2.1,l))),bX s.2]=↑(.non,[hA (k++[.tell a m l]) (p++[s]++[(s.1.set (a-1) (t.set (m-1) (x.1,x.2.1,l)),s.2)])]):=vu (k:=k) (p:=p++[s]) (d:=.tell a m l) (ss:=s.1.set (a-1) (t.set (m-1) (x.1,x.2.1,l))) (sp:=s.2) ∅ (by simp;lia);have w:=vp (k:=k) (p:=p) (s:=s);have y:=qJ (k:=k) (p:=p) (s:=s);have z:=Nz x l;have kd:=ES x;have A:lr 8 [hA k (p++[s])] [↥(a:Int),↥(m:Int),↥l]=[↑(.ag kH ↑0 (hP k (p++[s]))),!↥(a:Int),!↥(m:Int),!↥l,none,none,none,none]:=rfl;have I:∃e',v8 (lr 8 [hA k (p++[s])] [↥(a:Int),↥(m:Int),↥l])=↑(.rt ↥x.2.2,↑(.ag kH ↑0 (hP (k++[.tell a m l]) (p++[s]++[(s.1.set (a-1) (t.set (m-1) (x.1,x.2.1,l)),s.2)])))::e'):=by
  rw[A];unfold aG at *;generalize (s.1.map λs=>D.lst (s.map sD))=SL at *;generalize (t.map sD).take (m-1)=TA at *;generalize (t.map sD).drop m=TB at *;generalize t.map sD=T at *;generalize sD (x.1,x.2.1,l)=Y at *;generalize sD x=Z at *;refine⟨[!↥(a:Int),!↥(m:Int),!↥l,!.lst SL,!.lst T,!Z,!.lst (TA++[Y]++TB)],?_⟩;simp only[v8,aE,aH,cA,je,gW,gM,aC,ac,o8,w,ah,aw,av,oy,ph,ak,aB,af,ae,k1,k2,k3,j,nk,fH,cZ,xj,k5,noL,dm,d5,aF,bP,aD,fC,aZ,n,o,aJ,bW,fI,fY,fF,c,q,gi,z,r,f2,aW,ao,bq,show 0+1<=64 by decide,show 0+1+1+1+1<=64 by decide,b,y,vc,vl,v,b9,dw,vr,aK,kd]
 obtain⟨e',I⟩:=I;exact⟨by unfold n2 xL;rw[am ⟨rfl,rfl⟩,I],by unfold qI dB;rw[am ⟨rfl,rfl⟩,I];rfl⟩
abbrev dQ(ss:ln):List k4:=ss.map λs=>s.map sD
def Fv(h:e[j]?=↑⇑d):(frz false e)[j]?=↑⇑d:=by
 unfold frz;rw[cb,h];rfl
def Fw(h:e[j]?=↑↑(.o2 (dQ ss))):(frz false e)[j]?=↑⇑(aG ss):=by
 unfold frz;rw[cb,h];show ↑↑(Sl.sh (.lst ((dQ ss).map D.lst)))=_;unfold dQ aG;rw[gg];rfl
def Fx(r:ll):noLs (r.map sD)=true:=by
 induction r with
 |nil=>rfl |cons x r ih=>rw[b9];unfold noLs;rw[ih];rfl
variable{c w:Str}
def N1(h:wj c=↑w):((List.range 13).filter λk=>c==nc.getD k "").map (λk=>D.str (t4.getD k ""))=[D.str w]:=by
 have I:c∈nc:=Eh (by unfold iE;rw[h];rfl);simp[nc] at I;rcases I with rfl |rfl |rfl |rfl |rfl |rfl |rfl |rfl |rfl |rfl |rfl |rfl |rfl <;> cases h <;> rfl
theorem N3(c:Str)(d:D)(h:iE c=↑d):lO 4 z4 c d:=by
 obtain⟨w,U,rfl⟩:=fq.mp h;intro ea;have V:fP [↥13]=↑(bS 0 13):=qb 13 (by decide);have Y:∀n,n<=100->cI n=True:=λn e=>sf (few ∅);have I:=oS (tt:=dI (aI (aF 2 (aB 0))) (aI (dF ea 3 true))) (te:=aF 1 (aB 0)) (base:=[!.lst (t4.map D.str),!(.lst (nc.map λn=>D.bl (c==n))),!.exc ea]) (λj:Nat=>D.int (0+(j:Int))) (λk=>D.str (t4.getD k "")) (λk=>c==nc.getD k "") (List.range 13) (λk S=>by
  have S:=gq.mp S;have Z:bG (nc.map λn=>D.bl (c==n)) (0+(k:Int))=↑(.bl (c==nc.getD k "")):=by
   rw[ke,mi (λn:Str=>D.bl (c==n)) (bc (show k<nc.length from S)),cj,bc (show k<nc.length from S)];rfl
  have a:bG (t4.map D.str) (0+(k:Int))=↑(.str (t4.getD k "")):=by
   rw[ke,mi D.str (bc (show k<t4.length from S)),cj,bc (show k<t4.length from S)];rfl
  generalize (nc.map λn=>D.bl (c==n))=KL at *;generalize t4.map D.str=WL at *;refine⟨[!↥(0+(k:Int)),!.lst WL,!.lst KL,!.exc ea],?_,λ_=>⟨_,by simp only[aF,aB,bP,ae,af,ac,ah,a];rfl⟩⟩;generalize (c==nc.getD k "")=bb at *;cases bb <;> simp only[dI,aI,aF,aB,bP,dF,Z,ae,af,ac,ah,bx,ff,dm])
 rw[N1 U] at I;have I:rg (dI (aI (aF 2 (aB 0))) (aI (dF ea 3 true))) (aF 1 (aB 0)) [!.lst (t4.map D.str),!(.lst (nc.map λn=>D.bl (c==n))),!.exc ea] (bS 0 13)=↑[D.str w]:=I;have b:(bS 0 13).length=13:=rfl;refine⟨[!.exc ea,!(.lst (nc.map λn=>D.bl (c==n))),!.lst (t4.map D.str),!.lst [.str w]],?_⟩;show z4 ea c [!.exc ea,none,none,none]=_;simp[nc,t4] at I ⊢;simp[z4,dF,Y,jf,V,b,gH,I,jL]
def qL:FS:=aE (aV (aI (aD bU (gJ (.at (.ins false "House" jm)) 0 0) [:0])) (mj "NothingDone" (some)) (aM)) (aE (je (gT (.at (.ins false "House" jm)) 0 1)) (aK (gT (.at (.ins false "House" jm)) 0 0)))
def qM:k9->k4->la:=dB 1 1 0 qL
def n3:k9->k4->Option (Str×k9):=xL 1 1 0 qL
def ue:FS:=aE (aV (aI (aD bU (aF 1 [:0]) (fC (.str "put")))) (cA (xK (.ins false "House" jm) 0 (pd nb [0] (ak (aF 1 [:1]) (ak (aF 1 [:2]) (ak (aF 1 [:3]) (aC)))))) (aK (fK (.ins false "House" jm) 0 (me qA [0] (ak (aF 1 [:1]) (ak (aF 1 [:2]) (ak (aF 1 [:3]) (aC)))))))) (aM)) (aE (aV (aI (aD bU (aF 1 [:0]) (fC (.str "tell")))) (cA (xK (.ins false "House" jm) 0 (pd n2 [0] (ak (aF 1 [:1]) (ak (aF 1 [:2]) (ak (aF 1 [:3]) (aC)))))) (aK (fK (.ins false "House" jm) 0 (me qI [0] (ak (aF 1 [:1]) (ak (aF 1 [:2]) (ak (aF 1 [:3]) (aC)))))))) (aM)) (aE (aV (aI (aD bU (aF 1 [:0]) (fC (.str "go")))) (cA (xK (.ins false "House" jm) 0 (pd nw [0] (ak (aF 1 [:1]) (aC)))) (aK (fK (.ins false "House" jm) 0 (me qG [0] (ak (aF 1 [:1]) (aC)))))) (aM)) (aE (aV (aI (aD bU (aF 1 [:0]) (fC (.str "dry")))) (cA (xK (.ins false "House" jm) 0 (pd nq [0] (aC))) (aK (fK (.ins false "House" jm) 0 (me qD [0] (aC))))) (aM)) (cA (xK (.ins false "House" jm) 0 (pd n3 [0] (aC))) (aK (fK (.ins false "House" jm) 0 (me qM [0] (aC))))))))
def v4:k9->k4->la:=dB 2 1 1 ue
def n4:k9->k4->Option (Str×k9):=xL 2 1 1 ue
def v7:FS:=aE (aH 2 (aW (ak (fC (.str "refused")) (ak (fC (.str "")) (aC))))) (aE (iC (cA (pd n4 [0] (ak (aB 1) (aC))) (aK (me v4 [0] (ak (aB 1) (aC))))) 3 2 iE) (aK (aB 2)))
def rn:k9->k4->la:=dB 4 1 1 v7
def N4:k9->k4->Option (Str×k9):=xL 4 1 1 v7
def n7:FS:=aE (yn 1 [3,4,5,6]) (aE (aH 7 (d5 qE (ak (aB 3) (ak (gJ (.al 4) 1 1) (ak (aB 2) (aC)))))) (aE (aH 8 (me rn [0] (ak (aB 2) (aC)))) (aE (aV (aI (aD jZ (aB 7) (fC (.str "")))) (aK (d5 vz (ak (aB 8) (ak (aW (ak (fC (.str "refused")) (ak (aB 7) (aC)))) (aC))))) (aM)) (aE (aV (aI (aD bU (aF 2 [:0]) (fC (.str "back")))) (aE (aH 9 (gT (.al 5) 1 2)) (aE (vf 1 0 (aF 9 [:0])) (aE (vf 1 3 (aF 9 [:1])) (aK (d5 vz (ak (aB 8) (ak (gT (.al 4) 1 1) (aC)))))))) (aM)) (aE (aH 10 (d5 vt (ak (aB 3) (ak (aB 2) (ak (cZ false (aD iq [:1] (d5 dO (ak (aJ (jf (cP (aB 4)) [] (aI (aD bU (aF 0 [:0]) (fC (.str "put")))) (aB 0))) (aC))))) (aC)))))) (aE (je (vm (.al 5) 1 2 (aW (ak (aB 3) (ak (aB 6) (aC)))))) (aE (je (vm (.al 4) 1 1 (aB 2))) (aE (vf 1 0 (aF 10 [:0])) (aE (aV (aI (aD bU (aF 2 [:0]) (fC (.str "dry")))) (aE (aH 11 (d5 dO (ak (d5 AC (ak (aB 6) (aC))) (aC)))) (vf 1 3 (aJ (bW (aB 6) (aJ (gi (ak (aW (ak (aB 11) (ak (aD iq (aB 11) (aD cS (aF 10 [:1]) [:1])) (ak (d5 uR (ak (aB 3) (aC))) (aC))))) (aC)))))))) (aM)) (aK (d5 nu (ak (aB 8) (ak (aF 10 [:1]) (aC))))))))))))))
def vq:k9->k4->la:=dB 12 2 1 n7
def N5:k9->k4->Option (Str×k9):=xL 12 2 1 n7
variable{ags:k9}
def zx{p:Nat}{t:k9}(h1:ags.length=p)(h2:ds.length=ar)(D:g (lr n ags ds)=↑(.xc c,e))(I:fQ e 0 (List.range p)=↑t):xL n p ar g ags ds=↑(c,t):=by
 unfold xL;rw[am ⟨h1,h2⟩,D];dsimp only;rw[I];rfl
variable{a:Int}
theorem N6{l:Int}(D:fS s.1 k.length a h l=↑c)(f:s.1.length<=5):nb [hA k (p++[s])] [↥a,↥h,↥l]=↑(c,[hA k (p++[s])]):=by
 have I:=vp (k:=k) (p:=p) (s:=s);have V:lr 7 [hA k (p++[s])] [↥a,↥h,↥l]=[↑(.ag kH ↑0 (hP k (p++[s]))),!↥a,!↥h,!↥l,none,none,none]:=rfl;have k5:=xw (k.map dD);rw[ai] at k5;refine zx (e:=[↑(.ag kH ↑0 (hP k (p++[s]))),!↥a,!↥h,!↥l,!aG s.1,none,none]) rfl rfl ?_ rfl;rw[V];unfold fS at D;have S:=Fm s.1 ∅;split at D
 ·cases D
  rename_i Y;have k1:=uZ (ss:=s.1) (a:=a) Y;simp[wx,gW,gM,o8,I,oy,k1]
 have k1:=zd (ss:=s.1) (a:=a) ∅ ∅;split at D
 ·cases D
  rename_i Z;have k2:=Nh (h:=h) Z;simp[wx,gW,gM,o8,I,oy,ph,k1,k2]
 have k2:=Fj (h:=h) ∅ ∅;split at D
 ·cases D
  rename_i b;have k3:=Fk (h:=l) b;simp[wx,gW,gM,o8,I,oy,ph,k1,k2,k3]
 have k3:=u_ (h:=l) ∅ ∅;split at D
 ·rename_i U
  rw[am U] at S;split at D
  ·cases D
  ·cases D
   rename_i d;rw[bw d] at k5;simp[wx,gW,gM,o8,I,oy,ph,k1,k2,k3,S,fH,xj,k5]
 ·cases D
  rename_i U;rw[bw U] at S;simp[wx,gW,gM,o8,I,oy,ph,k1,k2,k3,S]
def t3(ss:ln)(n:Nat)(a m l:Int):ka:=if a<1\/(ss.length:Int)<a then some "UnknownStack" else if (ss.getD (a.toNat-1) []).length=0 then some "EmptyStack" else if m<1\/((ss.getD (a.toNat-1) []).length:Int)<m then some "UnknownPlace" else if l<0\/100<l then some "BadLoss" else if n<60 then none else some "DeedsFull"
def jA(ss:ln)(n:Nat)(a:Int):ka:=if a<1\/(ss.length:Int)<a then some "UnknownStack" else if (ss.getD (a.toNat-1) []).length=0 then some "EmptyStack" else if n<60 then none else some "DeedsFull"
def hL(ss:ln)(n:Nat):ka:=if 0<ss.flatten.length then(if n<60 then none else some "DeedsFull") else some "NothingWaits"
theorem xt(h:¬(a<1\/(ss.length:Int)<a)):ss[a.toNat-1]?=↑(ss.getD (a.toNat-1) []):=by
 rw[cj,bc ∅];rfl
theorem AW(D:jA s.1 k.length a=↑c)(Y:s.1.length<=5):nw [hA k (p++[s])] [↥a]=↑(c,[hA k (p++[s])]):=by
 have I:=vp (k:=k) (p:=p) (s:=s);have k5:=xw (k.map dD);rw[ai] at k5;refine zx (e:=[↑(.ag kH ↑0 (hP k (p++[s]))),!↥a,!aG s.1]) rfl rfl ?_ rfl;rw[show lr 3 [hA k (p++[s])] [↥a]=[↑(.ag kH ↑0 (hP k (p++[s]))),!↥a,none] from rfl];unfold jA at D;split at D
 ·cases D
  rename_i S;have k1:=uZ (ss:=s.1) (a:=a) S;simp[zh,gW,gM,o8,I,oy,ph,k1]
 rename_i S;have k1:=zd (ss:=s.1) (a:=a) ∅ ∅;have k2:=vx (xt S) ∅ ∅;rw[show((a.toNat:Nat):Int)=a by lia] at k2;split at D
 ·cases D
  rename_i U;rw[am U] at k2;simp[zh,gW,gM,o8,I,oy,ph,k1,k2]
 rename_i U;rw[bw U] at k2;split at D
 ·cases D
 ·cases D
  rename_i V;rw[bw V] at k5;simp[zh,gW,gM,o8,I,oy,ph,k1,k2,fH,xj,k5]
theorem N7{m l:Int}(I:t3 s.1 k.length a m l=↑c)(j:s.1.length<=5):n2 [hA k (p++[s])] [↥a,↥m,↥l]=↑(c,[hA k (p++[s])]):=by
 have S:=vp (k:=k) (p:=p) (s:=s);have k5:=xw (k.map dD);rw[ai] at k5;have e:lr 8 [hA k (p++[s])] [↥a,↥m,↥l]=[↑(.ag kH ↑0 (hP k (p++[s]))),!↥a,!↥m,!↥l,none,none,none,none]:=rfl;suffices Y:∃f,v8 (lr 8 [hA k (p++[s])] [↥a,↥m,↥l])=↑(.xc c,[↑(.ag kH ↑0 (hP k (p++[s]))),!↥a,!↥m,!↥l,!aG s.1,f,none,none]) from let ⟨_,Y⟩:=Y;zx rfl rfl Y rfl;rw[e];unfold t3 at I;split at I
 ·cases I
  rename_i U;have k1:=uZ (ss:=s.1) (a:=a) U;exact⟨_,by simp[v8,gW,gM,o8,S,oy,ph,k1];rfl⟩
 rename_i U;have k1:=zd (ss:=s.1) (a:=a) ∅ ∅;have k2:=vx (xt U) ∅ ∅;have V:=ve (xt U) ∅;rw[show((a.toNat:Nat):Int)=a by lia] at k2 V;split at I
 ·cases I
  rename_i Z;rw[am Z] at k2;generalize aG s.1=SL at *;exact⟨_,by simp[v8,gW,gM,o8,S,oy,ph,k1,k2];rfl⟩
 rename_i Z;rw[bw Z] at k2;have k3:=Fu (t:=s.1.getD (a.toNat-1) []) (m:=m);unfold aG at *;split at I
 ·cases I
  rename_i b;rw[am b] at k3;generalize (s.1.getD (a.toNat-1) []).map sD=TL at *;exact⟨_,by simp[v8,gW,gM,o8,S,oy,ph,k1,k2,V,k3];rfl⟩
 rename_i b;rw[bw b] at k3;generalize (s.1.getD (a.toNat-1) []).map sD=TL at *;generalize (s.1.map λs=>D.lst (s.map sD))=SL at *;split at I
 ·cases I
  rename_i g;have d:=Fk (h:=l) g;exact⟨_,by simp[v8,gW,gM,o8,S,oy,ph,k1,k2,V,k3,d];rfl⟩
 have d:=u_ (h:=l) ∅ ∅;split at I
 ·cases I
 ·cases I
  rename_i i;rw[bw i] at k5;exact⟨_,by simp[v8,gW,gM,o8,S,oy,ph,k1,k2,V,k3,d,fH,xj,k5];rfl⟩
theorem N8(D:hL s.1 k.length=↑c)(V:s.1.length<=5):nq [hA k (p++[s])] []=↑(c,[hA k (p++[s])]):=by
 have S:=vp (k:=k) (p:=p) (s:=s);have k5:=xw (k.map dD);rw[ai] at k5;have k1:=Fq s.1 ∅;refine zx (e:=[↑(.ag kH ↑0 (hP k (p++[s]))),!aG s.1,none,none,none,none]) rfl rfl ?_ rfl;rw[show lr 6 [hA k (p++[s])] []=[↑(.ag kH ↑0 (hP k (p++[s]))),none,none,none,none,none] from rfl];unfold hL at D;split at D
 ·rename_i I
  rw[am I] at k1;split at D
  ·cases D
  ·cases D
   rename_i U;rw[bw U] at k5;simp[np,gW,gM,o8,S,oy,ph,k1,fH,xj,k5]
 ·cases D
  rename_i I;rw[bw I] at k1;simp[np,gW,gM,o8,S,oy,ph,k1]
def vA(D:ps[j]?=↑(.o ds)):mz (.at kH) 0 j (↑(.ag kH ↑0 ps)::e)=↑ds:=Fg rfl D
variable{s':Hs}
theorem N9{d:eE}:n3 [hA (k++[d]) (p++[s]++[s'])] []=none/\qM [hA (k++[d]) (p++[s]++[s'])] []=↑(dD d,[hA k (p++[s])]):=by
 have U:lr 1 [hA (k++[d]) (p++[s]++[s'])] []=[↑(.ag kH ↑0 (hP (k++[d]) (p++[s]++[s'])))]:=rfl;have h1:mz (.at kH) 0 0 [↑(.ag kH ↑0 (hP (k++[d]) (p++[s]++[s'])))]=↑(k.map dD++[dD d]):=by rw[vA (j:=0) rfl];simp
 have h2:mz (.at kH) 0 1 [↑(.ag kH ↑0 (hP (k++[d]) (p++[s]++[s'])))]=↑((p++[s]).map dC++[dC s']):=by rw[vA (j:=1) rfl];simp
 have I:qL (lr 1 [hA (k++[d]) (p++[s]++[s'])] [])=↑(.rt (dD d),[↑(.ag kH ↑0 (hP k (p++[s])))]):=by
  rw[U];have V:∀(l:k4) (x:D),(l++[x])[(l++[x]).length-1]?=↑x:=λl x=>by simp
  have Y:∀(l:k4) (x:D),(l++[x]).dropLast=l:=λl x=>by simp
  have Z:¬(((k.map dD++[dD d]).length:Nat):Int)=0:=by simp;lia
  have S:mz (.at kH) 0 0 [↑(.ag kH ↑0 [.o (k.map dD++[dD d]),.o ((p++[s]).map dC)])]=↑(k.map dD++[dD d]):=vA (j:=0) rfl;unfold hP at *;rw[show((k++[d]).map dD)=k.map dD++[dD d] by simp,show((p++[s]++[s']).map dC)=(p++[s]).map dC++[dC s'] by simp] at *;generalize (p++[s]).map dC=PL at *;simp only[qL,aE,aV,aI,aD,gJ,h1,ah,ac,fC,bU,Z,gl,bx,ff,aM,je,gT,ae,h2,V,Y,setP,aw,av,S,aK]
 exact⟨by unfold n3 xL;rw[am ⟨rfl,rfl⟩,I],by unfold qM dB;rw[am ⟨rfl,rfl⟩,I];rfl⟩
def NA:n3 [hA [] p] []=↑(("NothingDone" : Str),[hA [] p]):=by
 have h1:mz (.at kH) 0 0 [↑(.ag kH ↑0 (hP [] p))]=↑[]:=vA (j:=0) rfl;refine zx (e:=[↑(.ag kH ↑0 (hP [] p))]) rfl rfl ?_ rfl;rw[show lr 1 [hA [] p] []=[↑(.ag kH ↑0 (hP [] p))] from rfl];simp[qL,gJ,h1,show(((0:Nat):Int)=0) from rfl,mj]
inductive hO where
 |d (x:eE) |back
def cD:hO->D
 | .d x=>dD x | .back=>.tup [.str "back"]
def cB(ss:ln)(n:Nat):hO->ka
 | .d (.put a h l)=>fS ss n a h l
 | .d (.tell a m l)=>t3 ss n a m l
 | .d (.go a)=>jA ss n a | .d .dry=>hL ss n | .back=>if n=0 then some "NothingDone" else none
def fT(o:ka):Str:=match o with |none=>"" |some c=>(wj c).getD ""
theorem NB(U:ss.length<=1000)(e:aP):d5 fE (ak (aJ (jf (cP (aB 0)) [] b_ (jh 0))) aC) (⇑(aG ss)::e)=↑(.int (ss.flatten.length:Int),⇑(aG ss)::e):=by
 have c:=qz (te:=jh 0) (base:=[]) (λs:ll=>D.lst (s.map sD)) (λs:ll=>D.int (s.length:Int)) ss λs _=>⟨_,by simp;rfl⟩;have I:=mV (λs:ll=>(s.length:Int)) ss;have S:cI (ss.map λs=>D.lst (s.map sD)).length:=few (by rw[ai];lia);rw[EX] at I;unfold aG;generalize (ss.map λs=>D.lst (s.map sD))=L at *;simp only[d5,ak,aJ,jf,cP,aB,aC,ae,ac,ah,S,dm,dw,c,I]
def Rt(r:Option (Fl×aP))(x:Str):Prop:=∃e',r=↑(.rt (.str x),e')
section
variable {c p q:FT} {f g:FE} {u v w:FS} {e:aP} {i:Nat} {d:D} {x y:Str} {A B:Prop} [Decidable A] [Decidable B] {a b:Int}
def jO(h:f e=↑(d,e))(k:Rt (u (e.set i ⇑d)) x):Rt (aE (aH i f) u e) x:=by
 rw[show aE (aH i f) u e=u (e.set i ⇑d) by simp[h]];exact k
def qN(h:c e=↑(false,e))(k:Rt (aE v w e) x):Rt (aE (aV c u v) w e) x:=by
 rw[show aE (aV c u v) w e=aE v w e by simp[h]];exact k
def NC(h:c e=↑(true,e))(k:Rt (aE u w e) x):Rt (aE (aV c u v) w e) x:=by
 rw[show aE (aV c u v) w e=aE u w e by simp[h]];exact k
def vB(h:c e=↑(decide A,e))(k:A->y=x)(k':¬A->Rt (aE v w e) x):Rt (aE (aV c (aK (fC (.str y))) v) w e) x:=by
 by_cases z:A
 ·exact⟨e,by simp[h,z,k z]⟩
 ·exact qN (by rw[h,eg z]) (k' z)
def eU(h:c e=↑(false,e))(k:Rt (w e) x):Rt (aE (aV c u aM) w e) x:=qN h k
def gX(h:c e=↑(decide A,e))(k:A->y=x)(k':¬A->Rt (w e) x):Rt (aE (aV c (aK (fC (.str y))) aM) w e) x:=vB h k k'
def lQ(h:p e=↑(decide A,e))(h':¬A->q e=↑(decide B,e)):gL p q e=↑(decide (A\/B),e):=by
 by_cases z:A
 ·simp[h,z]
 ·simp[h,h' z,z]
def fU(h:p e=↑(false,e)):dI p q e=↑(false,e):=by simp[h]
def iG(h:p e=↑(true,e)):dI p q e=q e:=by simp[h]
def lR(h:f e=↑(.int a,e))(h':g e=↑(.int b,e)):aI (aD gG f g) e=↑(decide (a<b),e):=by simp[h,h']
def lS(h:f e=↑(.int a,e))(h':g e=↑(.int b,e)):aI (aD d_ f g) e=↑(decide (b<a),e):=by simp[h,h']
def Fy(h:f e=↑(.int a,e))(h':g e=↑(.int b,e)):aI (aD iL f g) e=↑(decide (b<=a),e):=by simp[h,h']
def AX(h:f e=↑(.int a,e))(h':g e=↑(.int b,e)):aI (aD bU f g) e=↑(decide (a=b),e):=by simp[h,h']
end
def lT:(("put" : Str) = "back")=False/\(("put" : Str) = "dry")=False/\(("put" : Str) = "tell")=False/\(("tell" : Str) = "back")=False/\(("tell" : Str) = "dry")=False/\(("tell" : Str) = "put")=False/\(("go" : Str) = "back")=False/\(("go" : Str) = "dry")=False/\(("go" : Str) = "put")=False/\(("go" : Str) = "tell")=False/\(("dry" : Str) = "back")=False/\(("dry" : Str) = "put")=False/\(("dry" : Str) = "tell")=False:=by
 refine⟨?_,?_,?_,?_,?_,?_,?_,?_,?_,?_,?_,?_,?_⟩ <;> exact i6 (by decide)
variable{x:Str}
def iS{x y z w:D}:bG [x,y,z,w] 0=↑x/\bG [x,y,z,w] 1=↑y/\bG [x,y,z,w] 2=↑z/\bG [x,y,z,w] 3=↑w:=⟨rfl,rfl,rfl,rfl⟩
theorem vC(ss:ln)(n:Nat)(c:hO)(k:ss.length<=5):qE [aG ss,↥(n:Int),cD c]=↑(.str (fT (cB ss n c))):=by
 have Y:=λe=>NB (ss:=ss) ∅ e;suffices S:Rt (Ff [!aG ss,!↥(n:Int),!cD c,none]) (fT (cB ss n c)) from let ⟨_,S⟩:=S;mf rfl S;have I:∀(d w:D),Rt (aE (aV (aI (aD iL (aB 1) [:60])) (aK (fC (.str "deeds full"))) (aM)) (aK (fC (.str ""))) [!aG ss,!↥(n:Int),!d,!w]) (fT (if n<60 then none else some "DeedsFull")):=λd w =>
  gX (Fy rfl rfl) (λh=>by rw[bw ∅];rfl) λh=>by rw[am ∅];exact⟨_,rfl⟩
 have U:∀r:aP,jh 0 (⇑(aG ss)::r)=↑(.int (ss.length:Int),⇑(aG ss)::r):=λr=>by unfold aG;simp
 have len1:∀(d:D) (w:D) (a:Int),aF 2 [:1] [!aG ss,!↥(n:Int),!d,!w]=↑(.int a,[!aG ss,!↥(n:Int),!d,!w])->¬(a<1\/(ss.length:Int)<a)->d5 dO (ak (aF 0 (aD aZ (aF 2 [:1]) [:1])) aC) [!aG ss,!↥(n:Int),!d,!w]=↑(.int ((ss.getD (a.toNat-1) []).length:Int),[!aG ss,!↥(n:Int),!d,!w]):=λd w a h Z=>by
  have g:=ve (xt Z) ∅;rw[show((a.toNat:Nat):Int)=a by lia] at g;have V:∀F:FE,F [!aG ss,!↥(n:Int),!d,!w]=↑(.int (a-1),[!aG ss,!↥(n:Int),!d,!w])->d5 dO (ak (aF 0 F) aC) [!aG ss,!↥(n:Int),!d,!w]=↑(.int ((ss.getD (a.toNat-1) []).length:Int),[!aG ss,!↥(n:Int),!d,!w]):=λF b=>by
   unfold aG at *;simp only[d5,ak,aF,b,aC,bP,ae,g,dO,ac,ah,ai]
  refine V _ ?_;simp only[aD,h,fC,aZ,ac,ah]
 cases c with
 |back =>
   refine jO (d:=.str "back") rfl ?_;by_cases z:n=0
   ·subst z;exact⟨_,rfl⟩
   ·have f:((n:Int)=0)=False:=i6 ∅
    refine⟨[!aG ss,!↥(n:Int),!cD .back,!.str "back"],?_⟩;rw[show fT (cB ss n .back) = "" by unfold cB;rw[bw z];rfl];generalize aG ss=SL at *;have i:cS (.lst [.str "",.str "nothing done"]) ↥0=↑(.str ""):=rfl;simp only[aE,aV,aI,aD,aB,fC,bU,aw,av,af,ae,ac,ah,gp,dm,aK,aJ,gi,ak,aC,d5,ao,bq,show 0+1+1<=64 by decide,f,gl,jF,i];rfl
 |d x =>
   cases x with
   |dry =>
     refine jO (d:=.str "dry") rfl (eU (by rfl) (NC (by rfl) ?_));show Rt _ (fT (hL ss n));unfold hL;refine gX (by exact AX (Y _) rfl) (λz=>by rw[bw ∅];rfl) λz=>?_;rw[am ∅];refine eU (by exact fU rfl) (eU (by exact fU rfl) (eU (by exact fU rfl) (eU (by exact fU rfl) ?_)));exact I _ _
   |put a h l =>
     refine jO (d:=.str "put") rfl (eU (by rfl) (qN (by rfl) ?_));show Rt _ (fT (fS ss n a h l));unfold fS;refine vB (by exact lQ (lR (a:=a) rfl rfl) λ_=>lS (a:=a) rfl (U _)) (λz=>by rw[am z];rfl) λz=>?_;rw[bw z];refine eU (by exact fU rfl) (eU (by exact fU rfl) ?_);refine gX (by exact(iG rfl).trans (lQ (lR (a:=h) rfl rfl) λ_=>lS (a:=h) rfl rfl)) (λz=>by rw[am z];rfl) λz=>?_;rw[bw z];refine gX (by exact(iG rfl).trans (lQ (lR (a:=l) rfl rfl) λ_=>lS (a:=l) rfl rfl)) (λz=>by rw[am z];rfl) λz=>?_;rw[bw z];refine gX (by exact(iG rfl).trans (Fy (Y _) rfl)) (λz=>by rw[bw ∅];rfl) λz=>?_;rw[am ∅];exact I _ _
   |tell a m l =>
     refine jO (d:=.str "tell") rfl (eU (by rfl) (qN (by rfl) ?_));show Rt _ (fT (t3 ss n a m l));unfold t3;refine vB (by exact lQ (lR (a:=a) rfl rfl) λ_=>lS (a:=a) rfl (U _)) (λz=>by rw[am z];rfl) λz=>?_;rw[bw z];refine gX (by exact(iG rfl).trans (AX (len1 _ _ a rfl z) rfl)) (λz=>by rw[am ∅];rfl) λj=>?_;rw[bw ∅];refine gX (by exact(iG rfl).trans (lQ (lR (a:=m) rfl rfl) λ_=>lS (a:=m) rfl (len1 _ _ a rfl z))) (λz=>by rw[am z];rfl) λz=>?_;rw[bw z];refine eU (by exact fU rfl) ?_;refine gX (by exact(iG rfl).trans (lQ (lR (a:=l) rfl rfl) λ_=>lS (a:=l) rfl rfl)) (λz=>by rw[am z];rfl) λz=>?_;rw[bw z];refine eU (by exact fU rfl) ?_;exact I _ _
   |go a =>
     refine jO (d:=.str "go") rfl (eU (by rfl) (qN (by rfl) ?_));show Rt _ (fT (jA ss n a));unfold jA;refine vB (by exact lQ (lR (a:=a) rfl rfl) λ_=>lS (a:=a) rfl (U _)) (λz=>by rw[am z];rfl) λz=>?_;rw[bw z];refine gX (by exact(iG rfl).trans (AX (len1 _ _ a rfl z) rfl)) (λz=>by rw[am ∅];rfl) λj=>?_;rw[bw ∅];refine eU (by exact fU rfl) (eU (by exact fU rfl) (eU (by exact fU rfl) (eU (by exact fU rfl) ?_)));exact I _ _
def eV:hO->k9->k4->Option (Str×k9)
 | .d (.put _ _ _)=>nb | .d (.tell _ _ _)=>n2 | .d (.go _)=>nw | .d .dry=>nq | .back=>n3
def hU:hO->k9->k4->la
 | .d (.put _ _ _)=>qA | .d (.tell _ _ _)=>qI | .d (.go _)=>qG | .d .dry=>qD | .back=>qM
def gY:hO->k4
 | .d (.put a h l)=>[↥a,↥h,↥l] | .d (.tell a m l)=>[↥a,↥m,↥l] | .d (.go a)=>[↥a] |_=>[]
def yv{p:Nat}{t:k9}(h1:ags.length=p)(h2:ds.length=ar)(D:g (lr n ags ds)=↑(.rt d,e))(I:fQ e 0 (List.range p)=↑t):dB n p ar g ags ds=↑(d,t)/\xL n p ar g ags ds=none:=by
 unfold dB xL;rw[am ⟨h1,h2⟩,am ⟨h1,h2⟩,D];dsimp only;rw[I];exact⟨rfl,rfl⟩
def jP(D:F (↑(.ag kH l ps)::e)=↑(ds,↑(.ag kH l ps)::e))(I:m [(kH,ps)] ds=↑(x,[(kH,ps')])):xK kH 0 (pd m [0] F) (↑(.ag kH l ps)::e)=↑(x,↑(.ag kH l ps')::e):=by
 rw[Fh (i:=0) rfl];exact Fo (i:=0) rfl D I
def jQ(D:F (↑(.ag kH l ps)::e)=↑(ds,↑(.ag kH l ps)::e))(I:m [(kH,ps)] ds=none):xK kH 0 (pd m [0] F) (↑(.ag kH l ps)::e)=none:=by
 rw[Fh (i:=0) rfl];exact Fp (i:=0) rfl D I
variable{m:k9->k4->la}
def fN{x:D}(I:F (↑(.ag kH l ps)::e)=↑(ds,↑(.ag kH l ps)::e))(S:m [(kH,ps)] ds=↑(x,[(kH,ps')])):fK kH 0 (me m [0] F) (↑(.ag kH l ps)::e)=↑(x,↑(.ag kH l ps')::e):=by
 rw[AL (i:=0) rfl];exact yw (i:=0) rfl I S
def ND(c:hO)(h:eV c [(kH,ps)] (gY c)=↑(x,[(kH,ps')])):n4 [(kH,ps)] [cD c]=↑(x,[(kH,ps')]):=by
 refine zx (e:=[↑(.ag kH ↑0 ps'),!cD c]) rfl rfl ?_ rfl;rw[show lr 2 [(kH,ps)] [cD c]=[↑(.ag kH ↑0 ps),!cD c] from rfl];have sn:=lT;cases c with
 |back =>
   have U:bG [D.str "back"] 0=↑(.str "back"):=rfl;have S:(("back" : Str) = "put")=False/\(("back" : Str) = "tell")=False/\(("back" : Str) = "go")=False/\(("back" : Str) = "dry")=False:=by refine⟨?_,?_,?_,?_⟩ <;> exact i6 (by decide)
   have q:=jP (l:=↑0) (F:=aC) (e:=[!cD .back]) rfl h;simp only[cD,eV] at q ⊢;simp only[ue,aE,aV,aI,aD,aF,bP,fC,bU,ae,af,ac,ah,gl,bx,ff,aM,cA,aK, *]
 |d y =>
   cases y with
   |put a b z =>
     have I:=iS (x:=D.str "put") (y:=.int a) (z:=.int b) (w:=.int z);have q:=jP (l:=↑0) (F:=ak (aF 1 [:1]) (ak (aF 1 [:2]) (ak (aF 1 [:3]) aC))) (e:=[!cD (.d (.put a b z))]) rfl h;simp only[cD,dD,eV] at q ⊢;simp only[ue,aE,aV,aI,aD,aF,bP,fC,bU,ae,af,ac,ah,gp,dm,aM,cA,aK, *]
   |tell a b z =>
     have I:=iS (x:=D.str "tell") (y:=.int a) (z:=.int b) (w:=.int z);have q:=jP (l:=↑0) (F:=ak (aF 1 [:1]) (ak (aF 1 [:2]) (ak (aF 1 [:3]) aC))) (e:=[!cD (.d (.tell a b z))]) rfl h;simp only[cD,dD,eV] at q ⊢;simp only[ue,aE,aV,aI,aD,aF,bP,fC,bU,ae,af,ac,ah,gp,gl,bx,ff,dm,aM,cA,aK, *]
   |go a =>
     have I:bG [D.str "go",↥a] 0=↑(.str "go"):=rfl;have q:=jP (l:=↑0) (F:=ak (aF 1 [:1]) aC) (e:=[!cD (.d (.go a))]) rfl h;simp only[cD,dD,eV] at q ⊢;simp only[ue,aE,aV,aI,aD,aF,bP,fC,bU,ae,af,ac,ah,gp,gl,bx,ff,dm,aM,cA,aK, *]
   |dry =>
     have I:bG [D.str "dry"] 0=↑(.str "dry"):=rfl;have S:(("dry" : Str) = "go")=False:=i6 (by decide);have q:=jP (l:=↑0) (F:=aC) (e:=[!cD (.d .dry)]) rfl h;simp only[cD,dD,eV] at q ⊢;simp only[ue,aE,aV,aI,aD,aF,bP,fC,bU,ae,af,ac,ah,gp,gl,bx,ff,dm,aM,cA,aK, *]
def NE(c:hO)(S:eV c [(kH,ps)] (gY c)=none)(h:hU c [(kH,ps)] (gY c)=↑(d,[(kH,ps')])):v4 [(kH,ps)] [cD c]=↑(d,[(kH,ps')])/\n4 [(kH,ps)] [cD c]=none:=by
 refine yv (e:=[↑(.ag kH ↑0 ps'),!cD c]) rfl rfl ?_ rfl;rw[show lr 2 [(kH,ps)] [cD c]=[↑(.ag kH ↑0 ps),!cD c] from rfl];have sn:=lT;cases c with
 |back =>
   have Y:bG [D.str "back"] 0=↑(.str "back"):=rfl;have V:(("back" : Str) = "put")=False/\(("back" : Str) = "tell")=False/\(("back" : Str) = "go")=False/\(("back" : Str) = "dry")=False:=by refine⟨?_,?_,?_,?_⟩ <;> exact i6 (by decide)
   have I:=jQ (l:=↑0) (F:=aC) (e:=[!cD .back]) rfl S;have q:=fN (l:=↑0) (F:=aC) (e:=[!cD .back]) rfl h;simp only[cD,eV,hU] at I q ⊢;simp only[ue,aE,aV,aI,aD,aF,bP,fC,bU,ae,af,ac,ah,gl,bx,ff,aM,cA,aK, *]
 |d y =>
   cases y with
   |put a b z =>
     have U:=iS (x:=D.str "put") (y:=.int a) (z:=.int b) (w:=.int z);have I:=jQ (l:=↑0) (F:=ak (aF 1 [:1]) (ak (aF 1 [:2]) (ak (aF 1 [:3]) aC))) (e:=[!cD (.d (.put a b z))]) rfl S;have q:=fN (l:=↑0) (F:=ak (aF 1 [:1]) (ak (aF 1 [:2]) (ak (aF 1 [:3]) aC))) (e:=[!cD (.d (.put a b z))]) rfl h;simp only[cD,dD,eV,hU] at I q ⊢;simp only[ue,aE,aV,aI,aD,aF,bP,fC,bU,ae,af,ac,ah,gp,dm,aM,cA,aK, *]
   |tell a b z =>
     have U:=iS (x:=D.str "tell") (y:=.int a) (z:=.int b) (w:=.int z);have I:=jQ (l:=↑0) (F:=ak (aF 1 [:1]) (ak (aF 1 [:2]) (ak (aF 1 [:3]) aC))) (e:=[!cD (.d (.tell a b z))]) rfl S;have q:=fN (l:=↑0) (F:=ak (aF 1 [:1]) (ak (aF 1 [:2]) (ak (aF 1 [:3]) aC))) (e:=[!cD (.d (.tell a b z))]) rfl h;simp only[cD,dD,eV,hU] at I q ⊢;simp only[ue,aE,aV,aI,aD,aF,bP,fC,bU,ae,af,ac,ah,gp,gl,bx,ff,dm,aM,cA,aK, *]
   |go a =>
     have U:bG [D.str "go",↥a] 0=↑(.str "go"):=rfl;have I:=jQ (l:=↑0) (F:=ak (aF 1 [:1]) aC) (e:=[!cD (.d (.go a))]) rfl S;have q:=fN (l:=↑0) (F:=ak (aF 1 [:1]) aC) (e:=[!cD (.d (.go a))]) rfl h;simp only[cD,dD,eV,hU] at I q ⊢;simp only[ue,aE,aV,aI,aD,aF,bP,fC,bU,ae,af,ac,ah,gp,gl,bx,ff,dm,aM,cA,aK, *]
   |dry =>
     have U:bG [D.str "dry"] 0=↑(.str "dry"):=rfl;have V:(("dry" : Str) = "go")=False:=i6 (by decide);have I:=jQ (l:=↑0) (F:=aC) (e:=[!cD (.d .dry)]) rfl S;have q:=fN (l:=↑0) (F:=aC) (e:=[!cD (.d .dry)]) rfl h;simp only[cD,dD,eV,hU] at I q ⊢;simp only[ue,aE,aV,aI,aD,aF,bP,fC,bU,ae,af,ac,ah,gp,gl,bx,ff,dm,aM,cA,aK, *]
def Fz(c:hO)(h:eV c [(kH,ps)] (gY c)=↑(x,[(kH,ps)]))(D:wj x=↑w):rn [(kH,ps)] [cD c]=↑(.tup [.str "refused",.str w],[(kH,ps)]):=by
 have q:=Fo (m:=n4) (F:=ak (aB 1) aC) (e:=[↑(.ag kH ↑0 ps),!cD c,!(.tup [.str "refused",.str ""]),none]) (i:=0) (l:=↑0) (ps:=ps) (ds:=[cD c]) rfl rfl (ND c h);have k1:iE x=↑(.tup [.str "refused",.str w]):=by unfold iE;rw[D];rfl
 refine(yv (e:=[↑(.ag kH ↑0 ps),!cD c,!(.tup [.str "refused",.str w]),none]) rfl rfl ?_ rfl).1;rw[show lr 4 [(kH,ps)] [cD c]=[↑(.ag kH ↑0 ps),!cD c,none,none] from rfl];simp[v7] at q ⊢;simp[iC,q,k1]
def AY(c:hO)(I:eV c [(kH,ps)] (gY c)=none)(h:hU c [(kH,ps)] (gY c)=↑(d,[(kH,ps')])):rn [(kH,ps)] [cD c]=↑(d,[(kH,ps')]):=by
 obtain⟨S,U⟩:=NE c I h;have D:=Fp (m:=n4) (F:=ak (aB 1) aC) (e:=[↑(.ag kH ↑0 ps),!cD c,!(.tup [.str "refused",.str ""]),none]) (i:=0) (l:=↑0) (ps:=ps) (ds:=[cD c]) rfl rfl U;have q:=yw (m:=v4) (F:=ak (aB 1) aC) (e:=[↑(.ag kH ↑0 ps),!cD c,!(.tup [.str "refused",.str ""]),none]) (i:=0) (l:=↑0) (ps:=ps) (ds:=[cD c]) rfl rfl S;refine(yv (e:=[↑(.ag kH ↑0 ps'),!cD c,!(.tup [.str "refused",.str ""]),none]) rfl rfl ?_ rfl).1;rw[show lr 4 [(kH,ps)] [cD c]=[↑(.ag kH ↑0 ps),!cD c,none,none] from rfl];simp[v7] at D q ⊢;simp[iC,D,q]
theorem kM(ss:ln)(S:ss.length<=1000)(e:aP):oJ (cP (aB 0)) [] (io qj (ak (aB 0) aC)) (⇑(aG ss)::e)=↑(dQ ss,⇑(aG ss)::e):=by
 have c:=DB (te:=io qj (ak (aB 0) (aC))) (base:=[]) (λs:ll=>D.lst (s.map sD)) (λs:ll=>s.map sD) ss λs _=>⟨_,by simp;rfl⟩;have I:cI (ss.map λs=>D.lst (s.map sD)).length:=few (by rw[ai];lia);unfold aG dQ;generalize (ss.map λs=>D.lst (s.map sD))=L at *;simp[oJ,I,c]
def qO(ss:ln):D.lst ((dQ ss).map D.lst)=aG ss:=by unfold dQ aG;rw[gg];rfl
variable{x:Sk}
def lU{x:D}{l:k4}:bG (x::l) 0=↑x:=by unfold bG eI;simp
variable{a:Nat}{num:Int}
theorem NF{l:Int}(U:1<=a)(f:a<=ss.length)(g:ss.length<=5)(i:(ss.getD (a-1) []).length<=1000):vt [aG ss,dD (.put a h l),↥num]=↑(.lst [aG (gC ss a (num,h,l)),↥num]):=by
 have j:=λe=>kM ss ∅ e;have V:=iS (x:=D.str "put") (y:=.int (a:Int)) (z:=.int h) (w:=.int l);have k:((1:Int)<((0+1+1+1+1:Nat):Int))=True:=sf (by decide);have I:ss[a-1]?=↑(ss.getD (a-1) []):=by rw[cj,bc ∅];rfl
 have m:eI (dQ ss).length ((a:Int)-1)=↑(a-1):=by
  rw[wp ∅ (by unfold dQ;rw[ai];lia)];congr 1;lia
 have Y:(dQ ss).set (a-1) (((num,h,l)::ss.getD (a-1) []).map sD)=dQ (gC ss a (num,h,l)):=by unfold gC dQ;rw[jq]
 have Z:=ve I U;have b:cI (0+1+((ss.getD (a-1) []).map sD).length):=few (by rw[ai];lia);have c:noLs (D.tup [↥num,↥h,↥l]::(ss.getD (a-1) []).map sD)=true:=Fx ((num,h,l)::ss.getD (a-1) []);have ct:wb false (bW (aJ (gi (ak (aW (ak (aB 2) (ak (aF 1 [:2]) (ak (aF 1 [:3]) (aC))))) (aC)))) (aF 3 (aB 4))) [!aG ss,!dD (.put a h l),!↥num,↑(.o2 (dQ ss)),!↥((a:Int)-1),none]=↑(((num,h,l)::ss.getD (a-1) []).map sD,[!aG ss,!dD (.put a h l),!↥num,↑(.o2 (dQ ss)),!↥((a:Int)-1),none]):=by
  have d:frz false [!aG ss,!dD (.put a h l),!↥num,↑(.o2 (dQ ss)),!↥((a:Int)-1),none]=[!aG ss,!dD (.put a h l),!↥num,!aG ss,!↥((a:Int)-1),none]:=by
   rw[<-qO];rfl
  unfold wb;rw[d,show((num,h,l)::ss.getD (a-1) []).map sD=D.tup [↥num,↥h,↥l]::(ss.getD (a-1) []).map sD from rfl];unfold aG dD;generalize (ss.getD (a-1) []).map sD=TL at *;generalize (ss.map λs=>D.lst (s.map sD))=SL at *;simp[V,Z,b,c]
 rw[<-qO (gC ss a (num,h,l)),<-Y];suffices S:∃e',xb [!aG ss,!dD (.put a h l),!↥num,none,none,none]=↑(.rt (.lst [.lst (((dQ ss).set (a-1) (((num,h,l)::ss.getD (a-1) []).map sD)).map D.lst),↥num]),e') from let ⟨_,S⟩:=S;mf rfl S;simp only[dD] at ct ⊢;simp only[xb,aE,oH,aH,fC,jh,aF,bP,aB,aD,aI,aV,aM,d_,bU,aZ,ae,af,ac,ah,av,aw,ao,bq,gp,dm,aK,aJ,gi,ak,aC,xk,dE,jK,b9,dw, *];exact⟨_,rfl⟩
theorem NG{m:Nat}{l:Int}(I:ss[a-1]?=↑t)(U:t[m-1]?=↑x)(V:1<=a)(i:1<=m)(j:ss.length<=5):vt [aG ss,dD (.tell a m l),↥num]=↑(.lst [aG (ss.set (a-1) (t.set (m-1) (x.1,x.2.1,l))),↥x.2.2]):=by
 have k:=λe=>kM ss ∅ e;have sn:=lT;have Y:=iS (x:=D.str "tell") (y:=.int (a:Int)) (z:=.int (m:Int)) (w:=.int l);have n:bG [D.int x.1,↥x.2.1,↥x.2.2] 0=↑↥x.1/\bG [D.int x.1,↥x.2.1,↥x.2.2] 1=↑↥x.2.1/\bG [D.int x.1,↥x.2.1,↥x.2.2] 2=↑↥x.2.2:=⟨rfl,rfl,rfl⟩;have o:((1:Int)<((0+1+1+1+1:Nat):Int))=True:=sf (by decide);have Z:(0+1+1<=64)=True/\(0+1+1+1<=64)=True:=⟨sf (by decide),sf (by decide)⟩;have p:=(aj.mp I).1;have q:=(aj.mp U).1;have r:eI (dQ ss).length ((a:Int)-1)=↑(a-1):=by
  rw[wp ∅ (by unfold dQ;rw[ai];lia)];congr 1;lia
 have b:(dQ ss)[a-1]?=↑(t.map sD):=by unfold dQ;rw[cb,I];rfl
 have c:eI (t.map sD).length ((m:Int)-1)=↑(m-1):=by
  rw[wp ∅ (by rw[ai];lia)];congr 1;lia
 have d:(dQ ss).set (a-1) ((t.map sD).set (m-1) (.tup [↥x.1,↥x.2.1,↥l]))=dQ (ss.set (a-1) (t.set (m-1) (x.1,x.2.1,l))):=by
  unfold dQ;rw[jq,jq];rfl
 have f:=ve I V;have g:bG (t.map sD) ((m:Int)-1)=↑(sD x):=by
  rw[show(m:Int)-1=((m-1:Nat):Int) by lia];exact mi sD U
 have ct:cZ false (aD cS (aF 3 (aB 4)) (aD aZ (aF 1 [:2]) [:1])) [!aG ss,!dD (.tell a m l),!↥num,↑(.o2 (dQ ss)),!↥((a:Int)-1),none]=↑(sD x,[!aG ss,!dD (.tell a m l),!↥num,↑(.o2 (dQ ss)),!↥((a:Int)-1),none]):=by
  have h:frz false [!aG ss,!dD (.tell a m l),!↥num,↑(.o2 (dQ ss)),!↥((a:Int)-1),none]=[!aG ss,!dD (.tell a m l),!↥num,!aG ss,!↥((a:Int)-1),none]:=by
   rw[<-qO];rfl
  unfold cZ;rw[h];unfold aG dD;simp[Y,f,g];rfl
 rw[<-qO (ss.set (a-1) (t.set (m-1) (x.1,x.2.1,l))),<-d];suffices S:∃e',xb [!aG ss,!dD (.tell a m l),!↥num,none,none,none]=↑(.rt (.lst [.lst (((dQ ss).set (a-1) ((t.map sD).set (m-1) (.tup [↥x.1,↥x.2.1,↥l]))).map D.lst),↥x.2.2]),e') from let ⟨_,S⟩:=S;mf rfl S;simp only[dD,sD] at ct ⊢;simp only[xb,aE,oH,aH,fC,jh,aF,bP,aB,aD,aI,aV,aM,d_,bU,aZ,ae,af,ac,ah,av,aw,ao,bq,gp,gl,bx,ff,dm,aK,aJ,gi,ak,aC,xk,dE, *];simp only[s_,aW];simp only[fC,aF,bP,aB,aD,aZ,ae,af,ac,ah,av,aw,ao,bq,dm,ak,aC,dE,jK,b9,dw, *];exact⟨_,rfl⟩
theorem F0{v1 v2:k8}(U:ss[a-1]?=↑(x::tl))(V:1<=a)(h:ss.length<=5)(Y:tl.length<=1000) :
  ∃e',(aE (aH 5 (cZ false (aD cS (aF 3 (aB 4)) [:0]))) (aE (xk 3 (aB 4) (wb false (fI (aF 3 (aB 4)) (fF [:1]) (fY)))) (aK (aJ (gi (ak (aB 3) (ak (aB 5) (aC)))))))) [!aG ss,v1,v2,↑(.o2 (dQ ss)),!↥((a:Int)-1),none]=↑(.rt (.lst [aG (ss.set (a-1) tl),sD x]),e'):=by
 have i:=(aj.mp U).1;have Z:eI (dQ ss).length ((a:Int)-1)=↑(a-1):=by
  rw[wp ∅ (by unfold dQ;rw[ai];lia)];congr 1;lia
 have b:(dQ ss).set (a-1) (tl.map sD)=dQ (ss.set (a-1) tl):=by unfold dQ;rw[jq]
 have I:=ve U V;have c:bG (sD x::tl.map sD) 0=↑(sD x):=lU;have cd:=pW (sD x::tl.map sD) 1 ⋯;have d:noLs (tl.map sD)=true:=Fx tl;have S:(0+1+1<=64)=True:=sf (by decide);have e:(frz false [!aG ss,v1,v2,↑(.o2 (dQ ss)),!↥((a:Int)-1),none])[3]?=↑⇑(aG ss)/\(frz false [!aG ss,v1,v2,↑(.o2 (dQ ss)),!↥((a:Int)-1),none])[4]?=↑⇑↥((a:Int)-1):=⟨Fw rfl,Fv rfl⟩;have f:(frz false [!aG ss,v1,v2,↑(.o2 (dQ ss)),!↥((a:Int)-1),!sD x])[3]?=↑⇑(aG ss)/\(frz false [!aG ss,v1,v2,↑(.o2 (dQ ss)),!↥((a:Int)-1),!sD x])[4]?=↑⇑↥((a:Int)-1):=⟨Fw rfl,Fv rfl⟩;have ct:cZ false (aD cS (aF 3 (aB 4)) [:0]) [!aG ss,v1,v2,↑(.o2 (dQ ss)),!↥((a:Int)-1),none]=↑(sD x,[!aG ss,v1,v2,↑(.o2 (dQ ss)),!↥((a:Int)-1),none]):=by
  unfold cZ;unfold aG at *;simp[e,I,c];rfl
 have g:wb false (fI (aF 3 (aB 4)) (fF [:1]) (fY)) [!aG ss,v1,v2,↑(.o2 (dQ ss)),!↥((a:Int)-1),!sD x]=↑(tl.map sD,[!aG ss,v1,v2,↑(.o2 (dQ ss)),!↥((a:Int)-1),!sD x]):=by
  unfold wb;unfold aG at *;rw[b9] at I;generalize tl.map sD=TL at *;generalize (ss.map λs=>D.lst (s.map sD))=SL at *;have cd:cutD (sD x::TL) ↑1 none=TL:=cd;simp[f,I,cd,d]
 rw[<-qO (ss.set (a-1) tl),<-b];generalize tl.map sD=TL at *;generalize dQ ss=SO at *;simp only[aE,aH,ct,ah,ac,av,aw,xk,g,ae,af,dE,jK,b9,dw,aB,Z,aK,aJ,gi,ak,aC,ao,bq,S,dm];exact⟨_,rfl⟩
theorem NH(S:ss[a-1]?=↑(x::tl))(U:1<=a)(V:ss.length<=5)(I:tl.length<=1000):vt [aG ss,dD (.go a),↥num]=↑(.lst [aG (ss.set (a-1) tl),sD x]):=by
 obtain⟨e',st⟩:=F0 (v1:=⇑(dD (.go a))) (v2:=⇑↥num) S U V I;have Y:=λe=>kM ss ∅ e;have sn:=lT;have Z:bG [D.str "go",↥(a:Int)] 0=↑(.str "go")/\bG [D.str "go",↥(a:Int)] 1=↑↥(a:Int):=⟨rfl,rfl⟩;have b:((1:Int)<((0+1+1:Nat):Int))=True:=sf (by decide);refine mf (e':=e') rfl (?_:xb [!aG ss,!dD (.go a),!↥num,none,none,none]=_);rw[<-st];simp only[dD];simp[xb,Y,Z,sn]
variable{v:D}
theorem NI{u w:D}{ts:k4}(S:tQ [aG ss]=↑(.lst (.tup [↥(a:Int),u,v,w]::ts)))(U:ss[a-1]?=↑(x::tl))(V:1<=a)(Y:ss.length<=5)(I:tl.length<=1000):vt [aG ss,dD .dry,↥num]=↑(.lst [aG (ss.set (a-1) tl),sD x]):=by
 obtain⟨e',st⟩:=F0 (v1:=⇑(dD .dry)) (v2:=⇑↥num) U V Y I;have Z:=λe=>kM ss ∅ e;have sn:=lT;have b:bG [D.str "dry"] 0=↑(.str "dry"):=rfl;have c:bG (.tup [↥(a:Int),u,v,w]::ts) 0=↑(.tup [↥(a:Int),u,v,w]):=lU;have d:bG [D.int (a:Int),u,v,w] 0=↑↥(a:Int):=rfl;have f:((1:Int)<((0+1:Nat):Int))=False:=i6 (by decide);refine mf (e':=e') rfl (?_:xb [!aG ss,!dD .dry,!↥num,none,none,none]=_);rw[<-st];simp only[dD];simp[xb,Z,b,sn,S,c,d]
def cR(k:lx)(p:l1)(s:Hs):k7:=[.d (aG s.1),.o (k.map dD),.o (p.map dC),.d (bX s.2)]
structure SI (n i:Nat) (s:Hs):Prop where
 len:s.1.length=n
 few:s.1.flatten.length<=14
 good:∀x∈s.1.flatten,j5 x
 chain:yk 0 s.2
 rate:∀x∈s.2,0<=x.2.2/\x.2.2<=100000
 sp:s.2.length<=i
 hour:vd 0 s.2<=60*s.2.length
def F1(k:lx)(s:Hs)(d:eE)(s':Hs):Prop:=cB s.1 k.length (.d d)=none/\∃ans,vt [aG s.1,dD d,↥(lz k)]=↑(.lst [aG s'.1,ans])/\match d with | .dry=>∃x:Sk,ans=sD x/\s'.2=s.2++[(cH s.2,cH s.2+x.2.1,a_ s.1.flatten)] |_=>s'.2=s.2
structure HI (n:Nat) (k:lx) (p:l1) (s:Hs):Prop where
 n5:n<=5
 k60:k.length<=60
 kp:p.length=k.length
 all:∀i t,(p++[s])[i]?=↑t->SI n i t
 st0:(p++[s])[0]?=↑(eT n)
 tr:∀i d t t',k[i]?=↑d->(p++[s])[i]?=↑t->(p++[s])[i+1]?=↑t'->F1 (k.take i) t d t'
def HI.at(h:HI n k p s):SI n k.length s:=h.all k.length s (by rw[<-h.kp];simp)
variable{x:Str}
def nA{x:Nat}(h:e[i]?=↑↑(.ag .ls ↑r ps))(h2:e[x]?=↑↑(.al r (t5 ps j)))(D:ps[j]?=↑(.o ds)):mz (.al x) i j e=↑ds:=by
 unfold mz cY;rw[am (show Acc.ok (.al x) e i j from⟨_,_,_,h,h2⟩),h];dsimp;rw[D]
def NJ(h:c∈nc):∃w,wj c=↑w/\(w=("" : Str))=False:=by
 simp[nc] at h;rcases h with rfl |rfl |rfl |rfl |rfl |rfl |rfl |rfl |rfl |rfl |rfl |rfl |rfl <;> exact⟨_,rfl,i6 (by decide)⟩
variable{c:hO}
def NK(h:cB ss n c=↑x):x∈nc:=by
 cases c with
 |back =>
   simp only[cB] at h;split at h
   ·cases h;decide
   ·cases h
 |d y =>
   cases y with
   |put a b l=>simp only[cB,fS] at h;(repeat' split at h) <;> (first |cases h) <;> decide
   |tell a b l=>simp only[cB,t3] at h;(repeat' split at h) <;> (first |cases h) <;> decide
   |go a=>simp only[cB,jA] at h;(repeat' split at h) <;> (first |cases h) <;> decide
   |dry=>simp only[cB,hL] at h;(repeat' split at h) <;> (first |cases h) <;> decide
def F3(hi:HI n k p s)(h:cB s.1 k.length c=↑x):eV c [hA k (p++[s])] (gY c)=↑(x,[hA k (p++[s])]):=by
 have l5:s.1.length<=5:=by rw[hi.at.len];exact hi.n5
 cases c with
 |back =>
   simp only[cB] at h;split at h
   ·cases h
    rename_i q;obtain rfl:=ku q;exact NA
   ·cases h
 |d y =>
   cases y with
   |put a b l=>exact N6 h l5
   |tell a b l=>exact N7 h l5
   |go a=>exact AW h l5 |dry=>exact N8 h l5
def NL(hi:HI n k p s)(h:cB s.1 k.length c=↑x):vq [hA k (p++[s]),(.ls,cR k p s)] [cD c]=↑(.bl true,[hA k (p++[s]),(.ls,cR k p s)]):=by
 obtain⟨w,I,D⟩:=NJ (NK h);have rf:=vC s.1 k.length c (by rw[hi.at.len];exact hi.n5);rw[h,show fT ↑x=w by show(wj x).getD "" = w;rw[I];rfl] at rf;have cl:=Fz c (F3 hi h) I;have U:=qK [.str "refused",.str w] (by simp[kL]) ⋯;have V:((k.map dD).length:Int)=k.length:=by rw[ai]
 have pl:=nA (e:=[↑(.ag kH ↑0 (hP k (p++[s]))),↑(.ag .ls ↑1 (cR k p s)),!cD c,!aG s.1,↑(.al 1 0),↑(.al 1 1),!bX s.2,none,none,none,none,none]) (i:=1) (x:=4) (j:=1) (ds:=k.map dD) rfl rfl rfl;have S:=yw (m:=rn) (F:=ak (aB 2) aC) (e:=[↑(.ag kH ↑0 (hP k (p++[s]))),↑(.ag .ls ↑1 (cR k p s)),!cD c,!aG s.1,↑(.al 1 0),↑(.al 1 1),!bX s.2,!.str w,none,none,none,none]) (i:=0) (l:=↑0) (ps:=hP k (p++[s])) (ds:=[cD c]) rfl rfl cl;refine(yv (e:=[↑(.ag kH ↑0 (hP k (p++[s]))),↑(.ag .ls ↑1 (cR k p s)),!cD c,!aG s.1,↑(.al 1 0),↑(.al 1 1),!bX s.2,!.str w,!(.tup [.str "refused",.str w]),none,none,none]) rfl rfl ?_ rfl).1;rw[show lr 12 [hA k (p++[s]),(.ls,cR k p s)] [cD c]=[↑(.ag kH ↑0 (hP k (p++[s]))),↑(.ag .ls ↑1 (cR k p s)),!cD c,none,none,none,none,none,none,none,none,none] from rfl];have un:yn 1 [3,4,5,6] [↑(.ag kH ↑0 (hP k (p++[s]))),↑(.ag .ls ↑1 (cR k p s)),!cD c,none,none,none,none,none,none,none,none,none]=↑(.nx,[↑(.ag kH ↑0 (hP k (p++[s]))),↑(.ag .ls ↑1 (cR k p s)),!cD c,!aG s.1,↑(.al 1 0),↑(.al 1 1),!bX s.2,none,none,none,none,none]):=rfl;generalize hP k (p++[s])=HP at *;generalize bX s.2=SP at *;rw[<-V] at rf;generalize k.map dD=KL at *;simp at S;simp[n7,un,gJ,pl,rf];simp[S,D,U]
theorem F4(D:e[4]?=↑⇑(.lst (k.map dD)))(S:k.length<=1000):aD iq [:1] (d5 dO (ak (aJ (jf (cP (aB 4)) [] (aI (aD bU (aF 0 [:0]) (fC (.str "put")))) (aB 0))) (aC))) e=↑(.int (lz k),e):=by
 have c:=oS (tt:=aI (aD bU (aF 0 [:0]) (fC (.str "put")))) (te:=aB 0) (base:=[]) dD dD eE.isPut k λx _=>by
  cases x with
  |put a h l=>exact⟨_,rfl,λ_=>⟨_,rfl⟩⟩
  |tell a p l=>exact⟨_,rfl,λz=>nomatch z⟩
  |go a=>exact⟨_,rfl,λz=>nomatch z⟩ |dry=>exact⟨_,rfl,λz=>nomatch z⟩
 have I:cI (k.map dD).length:=few (by rw[ai];lia);unfold lz;generalize k.map dD=L at *;simp[jf,D,I,c]
variable{x:Sk}
def vD{x:Nat}(h:e[1]?=↑↑(.ag .ls ↑r ps))(h2:e[x]?=↑↑(.al r (t5 ps j)))(D:ps[j]?=↑(.o ds))(I:f e=↑(d,e))(S:cI (ds.length+1)) :
  vm (.al x) 1 j f e=↑(.non,e.set 1 ↑(.ag .ls ↑r (ps.set j (.o (ds++[d]))))):=by
 unfold vm;rw[h];dsimp only;rw[am (show jJ .ls ↑r from⟨rfl,λ_ _ z=>nomatch z⟩),nA h h2 D,ac,I,ac];unfold kI;rw[h];dsimp only;rw[D];dsimp only;rw[am ⟨rfl,rfl,rfl,S⟩];unfold setP;rw[h]
def F5:eE->Bool | .dry=>true |_=>false
variable{d:eE}{ss':ln}{ans:D}
theorem NM(hi:HI n k p s)(hd:F5 d=false)(h:cB s.1 k.length (.d d)=none)(c:k.length<=100)(cl:rn [hA k (p++[s])] [dD d]=↑(ans,[hA (k++[d]) (p++[s]++[(ss',s.2)])]))(st:vt [aG s.1,dD d,↥(lz k)]=↑(.lst [aG ss',ans]))(I:nu [ans,ans]=↑(.bl true))(g:noL ans=true) :
  vq [hA k (p++[s]),(.ls,cR k p s)] [dD d]=↑(.bl true,[hA (k++[d]) (p++[s]++[(ss',s.2)]),(.ls,cR (k++[d]) (p++[s]) (ss',s.2))]):=by
 have rf:=vC s.1 k.length (.d d) (by rw[hi.at.len];exact hi.n5);rw[h,show fT none = "" from rfl] at rf;have D:((k.map dD).length:Int)=k.length:=by rw[ai]
 obtain⟨w,ws,ew,hb,hdr⟩:∃w ws,dD d=.tup (.str w::ws)/\(w=("back" : Str))=False/\(w=("dry" : Str))=False:=by
  cases d with
  |put a h l=>exact⟨_,_,rfl,i6 (by decide),i6 (by decide)⟩
  |tell a h l=>exact⟨_,_,rfl,i6 (by decide),i6 (by decide)⟩
  |go a=>exact⟨_,_,rfl,i6 (by decide),i6 (by decide)⟩ |dry=>cases hd
 have pl:=nA (e:=[↑(.ag kH ↑0 (hP k (p++[s]))),↑(.ag .ls ↑1 (cR k p s)),!dD d,!aG s.1,↑(.al 1 0),↑(.al 1 1),!bX s.2,none,none,none,none,none]) (i:=1) (x:=4) (j:=1) (ds:=k.map dD) rfl rfl rfl;have Y:=yw (m:=rn) (F:=ak (aB 2) aC) (e:=[↑(.ag kH ↑0 (hP k (p++[s]))),↑(.ag .ls ↑1 (cR k p s)),!dD d,!aG s.1,↑(.al 1 0),↑(.al 1 1),!bX s.2,!.str "",none,none,none,none]) (i:=0) (l:=↑0) (ps:=hP k (p++[s])) (ds:=[dD d]) rfl rfl cl;have nm:cZ false (aD iq [:1] (d5 dO (ak (aJ (jf (cP (aB 4)) [] (aI (aD bU (aF 0 [:0]) (fC (.str "put")))) (aB 0))) (aC)))) [↑(.ag kH ↑0 (hP (k++[d]) (p++[s]++[(ss',s.2)]))),↑(.ag .ls ↑1 (cR k p s)),!dD d,!aG s.1,↑(.al 1 0),↑(.al 1 1),!bX s.2,!.str "",!ans,none,none,none]=↑(.int (lz k),[↑(.ag kH ↑0 (hP (k++[d]) (p++[s]++[(ss',s.2)]))),↑(.ag .ls ↑1 (cR k p s)),!dD d,!aG s.1,↑(.al 1 0),↑(.al 1 1),!bX s.2,!.str "",!ans,none,none,none]):=by
  unfold cZ;rw[F4 (k:=k) rfl ∅];rfl
 have Z:=vD (e:=[↑(.ag kH ↑0 (hP (k++[d]) (p++[s]++[(ss',s.2)]))),↑(.ag .ls ↑1 (cR k p s)),!dD d,!aG s.1,↑(.al 1 0),↑(.al 1 1),!bX s.2,!.str "",!ans,none,!(.lst [aG ss',ans]),none]) (x:=5) (j:=2) (ds:=p.map dC) (f:=aW (ak (aB 3) (ak (aB 6) aC))) (d:=dC s) rfl rfl rfl rfl (few (by rw[ai];have:=hi.kp;lia));have b:=vD (e:=[↑(.ag kH ↑0 (hP (k++[d]) (p++[s]++[(ss',s.2)]))),↑(.ag .ls ↑1 [.d (aG s.1),.o (k.map dD),.o (p.map dC++[dC s]),.d (bX s.2)]),!dD d,!aG s.1,↑(.al 1 0),↑(.al 1 1),!bX s.2,!.str "",!ans,none,!(.lst [aG ss',ans]),none]) (x:=4) (j:=1) (ds:=k.map dD) (f:=aB 2) (d:=dD d) rfl rfl rfl rfl (few (by rw[ai];lia));have S:bG (.str w::ws) 0=↑(.str w):=lU;have U:bG [aG ss',ans] 0=↑(aG ss')/\bG [aG ss',ans] 1=↑ans:=⟨rfl,rfl⟩;refine(yv (e:=[↑(.ag kH ↑0 (hP (k++[d]) (p++[s]++[(ss',s.2)]))),↑(.ag .ls ↑1 (cR (k++[d]) (p++[s]) (ss',s.2))),!dD d,!aG s.1,↑(.al 1 0),↑(.al 1 1),!bX s.2,!.str "",!ans,none,!(.lst [aG ss',ans]),none]) rfl rfl ?_ rfl).1;rw[show lr 12 [hA k (p++[s]),(.ls,cR k p s)] [dD d]=[↑(.ag kH ↑0 (hP k (p++[s]))),↑(.ag .ls ↑1 (cR k p s)),!dD d,none,none,none,none,none,none,none,none,none] from rfl];have un:yn 1 [3,4,5,6] [↑(.ag kH ↑0 (hP k (p++[s]))),↑(.ag .ls ↑1 (cR k p s)),!dD d,none,none,none,none,none,none,none,none,none]=↑(.nx,[↑(.ag kH ↑0 (hP k (p++[s]))),↑(.ag .ls ↑1 (cR k p s)),!dD d,!aG s.1,↑(.al 1 0),↑(.al 1 1),!bX s.2,none,none,none,none,none]):=rfl;have V:cR (k++[d]) (p++[s]) (ss',s.2)=[.d (aG ss'),.o (k.map dD++[dD d]),.o (p.map dC++[dC s]),.d (bX s.2)]:=by unfold cR;simp
 have rf:qE [aG s.1,↥(k.length:Int),dD d]=↑(.str ""):=rf;rw[V];rw[<-D] at rf;unfold cR at *;generalize dD d=DD at *;subst ew;clear V D cl;generalize hP (k++[d]) (p++[s]++[(ss',s.2)])=HP2 at *;generalize k.map dD=KL at *;simp[n7,un,gJ,pl,rf];simp[Y,S,hb];simp[nm,st,Z,b,vf,U,hdr,I];simp[U,S,hdr,I]
def F6{x:Nat}{d:D}(h:e[1]?=↑↑(.ag .ls ↑r ps))(h2:e[x]?=↑↑(.al r (t5 ps j)))(I:ps[j]?=↑(.o (ds++[d]))) :
  gT (.al x) 1 j e=↑(d,e.set 1 ↑(.ag .ls ↑r (ps.set j (.o ds)))):=by
 unfold gT;rw[nA h h2 I,ac,show(ds++[d])[(ds++[d]).length-1]?=↑d by simp,ah,show(ds++[d]).dropLast=ds by simp];unfold setP;rw[h]
def NN(d:eE):∃xs,dD d=.tup xs/\(∀x∈xs,kL x)/\xs.length<=1000:=by
 cases d <;> exact⟨_,rfl,by simp[kL],by simp⟩
def NO(hi:HI n (k++[d]) (p++[s]) s') :
  vq [hA (k++[d]) (p++[s]++[s']),(.ls,cR (k++[d]) (p++[s]) s')] [cD .back]=↑(.bl true,[hA k (p++[s]),(.ls,cR k p s)]):=by
 have h:cB s'.1 (k++[d]).length .back=none:=by simp[cB]
 have rf:=vC s'.1 (k++[d]).length .back (by rw[hi.at.len];exact hi.n5);rw[h,show fT none = "" from rfl] at rf;obtain⟨xs,ex,V,Y⟩:=NN d;have S:=qK xs V Y;rw[<-ex] at S;have U:=N9 (k:=k) (p:=p) (s:=s) (d:=d) (s':=s');have cl:=AY .back U.1 U.2;have Z:cR (k++[d]) (p++[s]) s'=[.d (aG s'.1),.o (k.map dD++[dD d]),.o (p.map dC++[dC s]),.d (bX s'.2)]:=by unfold cR;simp
 have I:((k.map dD++[dD d]).length:Int)=(k++[d]).length:=by simp
 rw[<-I] at rf;rw[Z];have pl:=nA (e:=[↑(.ag kH ↑0 (hP (k++[d]) (p++[s]++[s']))),↑(.ag .ls ↑1 [.d (aG s'.1),.o (k.map dD++[dD d]),.o (p.map dC++[dC s]),.d (bX s'.2)]),!cD .back,!aG s'.1,↑(.al 1 0),↑(.al 1 1),!bX s'.2,none,none,none,none,none]) (i:=1) (x:=4) (j:=1) (ds:=k.map dD++[dD d]) rfl rfl rfl;have a:=yw (m:=rn) (F:=ak (aB 2) aC) (e:=[↑(.ag kH ↑0 (hP (k++[d]) (p++[s]++[s']))),↑(.ag .ls ↑1 [.d (aG s'.1),.o (k.map dD++[dD d]),.o (p.map dC++[dC s]),.d (bX s'.2)]),!cD .back,!aG s'.1,↑(.al 1 0),↑(.al 1 1),!bX s'.2,!.str "",none,none,none,none]) (i:=0) (l:=↑0) (ps:=hP (k++[d]) (p++[s]++[s'])) (ds:=[cD .back]) rfl rfl cl;have b:=F6 (e:=[↑(.ag kH ↑0 (hP k (p++[s]))),↑(.ag .ls ↑1 [.d (aG s'.1),.o (k.map dD++[dD d]),.o (p.map dC++[dC s]),.d (bX s'.2)]),!cD .back,!aG s'.1,↑(.al 1 0),↑(.al 1 1),!bX s'.2,!.str "",!dD d,none,none,none]) (x:=5) (j:=2) rfl rfl rfl;have c:=F6 (e:=[↑(.ag kH ↑0 (hP k (p++[s]))),↑(.ag .ls ↑1 [.d (aG s.1),.o (k.map dD++[dD d]),.o (p.map dC),.d (bX s.2)]),!cD .back,!aG s'.1,↑(.al 1 0),↑(.al 1 1),!bX s'.2,!.str "",!dD d,!(.tup [aG s.1,bX s.2]),none,none]) (x:=4) (j:=1) rfl rfl rfl;refine(yv (e:=[↑(.ag kH ↑0 (hP k (p++[s]))),↑(.ag .ls ↑1 (cR k p s)),!cD .back,!aG s'.1,↑(.al 1 0),↑(.al 1 1),!bX s'.2,!.str "",!dD d,!(.tup [aG s.1,bX s.2]),none,none]) rfl rfl ?_ rfl).1;rw[show lr 12 [hA (k++[d]) (p++[s]++[s']),(.ls,[.d (aG s'.1),.o (k.map dD++[dD d]),.o (p.map dC++[dC s]),.d (bX s'.2)])] [cD .back]=[↑(.ag kH ↑0 (hP (k++[d]) (p++[s]++[s']))),↑(.ag .ls ↑1 [.d (aG s'.1),.o (k.map dD++[dD d]),.o (p.map dC++[dC s]),.d (bX s'.2)]),!cD .back,none,none,none,none,none,none,none,none,none] from rfl];have un:yn 1 [3,4,5,6] [↑(.ag kH ↑0 (hP (k++[d]) (p++[s]++[s']))),↑(.ag .ls ↑1 [.d (aG s'.1),.o (k.map dD++[dD d]),.o (p.map dC++[dC s]),.d (bX s'.2)]),!cD .back,none,none,none,none,none,none,none,none,none]=↑(.nx,[↑(.ag kH ↑0 (hP (k++[d]) (p++[s]++[s']))),↑(.ag .ls ↑1 [.d (aG s'.1),.o (k.map dD++[dD d]),.o (p.map dC++[dC s]),.d (bX s'.2)]),!cD .back,!aG s'.1,↑(.al 1 0),↑(.al 1 1),!bX s'.2,none,none,none,none,none]):=rfl;have f:cD .back=.tup [.str "back"]:=rfl;have g:bG [aG s.1,bX s.2] 0=↑(aG s.1)/\bG [aG s.1,bX s.2] 1=↑(bX s.2):=⟨rfl,rfl⟩;have q:bG [D.str "back"] 0=↑(.str "back"):=rfl;have es:dC s=.tup [aG s.1,bX s.2]:=rfl;unfold cR;generalize hP (k++[d]) (p++[s]++[s'])=HP2 at *;generalize dC s=SD at *;generalize cD .back=CD at *;subst f es;simp only[n7,aE,un,ac,aH,d5,ak,aC,aB,gJ,pl,ah,ae,af,rf,av,aw];simp[a,q];simp[b,vf,g,c,S]
def NP(i:Int):mQ [↥i]=↑(.bl true):=by
 rfl
def F7(i:Int):nu [↥i,↥i]=↑(.bl true)/\noL ↥i=true:=by
 refine⟨?_,rfl⟩;have w:=NP i;refine mf (e':=[!↥i,!↥i]) rfl ?_;rw[show ki 2 [D.int i,↥i]=[!↥i,!↥i] from rfl];simp only[AG,aE,aV,aI,fJ,aB,aM,aK,xo,d5,ak,aC,w,aD,bU,ae,af,ac,ah];simp[w]
def F8(x:Sk):nu [sD x,sD x]=↑(.bl true)/\noL (sD x)=true:=by
 refine⟨?_,rfl⟩;have w:=qK [↥x.1,↥x.2.1,↥x.2.2] (by simp[kL]) ⋯;refine mf (e':=[!sD x,!sD x]) rfl ?_;rw[show ki 2 [sD x,sD x]=[!sD x,!sD x] from rfl];simp only[AG,aE,aV,aI,fJ,aB,aM,aK,d5,ak,aC,sD,w,ae,af,ac,ah];simp
theorem NQ(hi:HI n k p s)(h:cB s.1 k.length (.d .dry)=none)(cl:rn [hA k (p++[s])] [dD .dry]=↑(sD x,[hA (k++[.dry]) (p++[s]++[eN s a x tl])]))(st:vt [aG s.1,dD .dry,↥(lz k)]=↑(.lst [aG (s.1.set (a-1) tl),sD x])) :
  vq [hA k (p++[s]),(.ls,cR k p s)] [dD .dry]=↑(.bl true,[hA (k++[.dry]) (p++[s]++[eN s a x tl]),(.ls,cR (k++[.dry]) (p++[s]) (eN s a x tl))]):=by
 have I:=hi.at;have l5:s.1.length<=5:=by rw[I.len];exact hi.n5
 have rf:=vC s.1 k.length (.d .dry) l5;rw[h,show fT none = "" from rfl] at rf;have S:((k.map dD).length:Int)=k.length:=by rw[ai]
 have Z:=(F8 x).1;have U:∀y∈s.1,y.length<=1000:=λy b=>by
  have h1:=I.few;have h2:=(gc b).length_le
  lia
 have c:=Nw s.1 ∅ U;have g:=I.sp;have E:=I.hour;have G:=hi.k60;have q:=Nx s.2 I.chain ∅;have r:(((gE s.2).map D.int).length:Int)=cH s.2:=by rw[ai,AU _ _ I.chain,AT];lia
 have pl:=nA (e:=[↑(.ag kH ↑0 (hP k (p++[s]))),↑(.ag .ls ↑1 (cR k p s)),!dD .dry,!aG s.1,↑(.al 1 0),↑(.al 1 1),!bX s.2,none,none,none,none,none]) (i:=1) (x:=4) (j:=1) (ds:=k.map dD) rfl rfl rfl;have t:=yw (m:=rn) (F:=ak (aB 2) aC) (e:=[↑(.ag kH ↑0 (hP k (p++[s]))),↑(.ag .ls ↑1 (cR k p s)),!dD .dry,!aG s.1,↑(.al 1 0),↑(.al 1 1),!bX s.2,!.str "",none,none,none,none]) (i:=0) (l:=↑0) (ps:=hP k (p++[s])) (ds:=[dD .dry]) rfl rfl cl;have nm:cZ false (aD iq [:1] (d5 dO (ak (aJ (jf (cP (aB 4)) [] (aI (aD bU (aF 0 [:0]) (fC (.str "put")))) (aB 0))) (aC)))) [↑(.ag kH ↑0 (hP (k++[.dry]) (p++[s]++[eN s a x tl]))),↑(.ag .ls ↑1 (cR k p s)),!dD .dry,!aG s.1,↑(.al 1 0),↑(.al 1 1),!bX s.2,!.str "",!sD x,none,none,none]=↑(.int (lz k),[↑(.ag kH ↑0 (hP (k++[.dry]) (p++[s]++[eN s a x tl]))),↑(.ag .ls ↑1 (cR k p s)),!dD .dry,!aG s.1,↑(.al 1 0),↑(.al 1 1),!bX s.2,!.str "",!sD x,none,none,none]):=by
  unfold cZ;rw[F4 (k:=k) rfl ∅];rfl
 have u:=vD (e:=[↑(.ag kH ↑0 (hP (k++[.dry]) (p++[s]++[eN s a x tl]))),↑(.ag .ls ↑1 (cR k p s)),!dD .dry,!aG s.1,↑(.al 1 0),↑(.al 1 1),!bX s.2,!.str "",!sD x,none,!(.lst [aG (s.1.set (a-1) tl),sD x]),none]) (x:=5) (j:=2) (ds:=p.map dC) (f:=aW (ak (aB 3) (ak (aB 6) aC))) (d:=dC s) rfl rfl rfl rfl (few (by rw[ai];have:=hi.kp;lia));have v:=vD (e:=[↑(.ag kH ↑0 (hP (k++[.dry]) (p++[s]++[eN s a x tl]))),↑(.ag .ls ↑1 [.d (aG s.1),.o (k.map dD),.o (p.map dC++[dC s]),.d (bX s.2)]),!dD .dry,!aG s.1,↑(.al 1 0),↑(.al 1 1),!bX s.2,!.str "",!sD x,none,!(.lst [aG (s.1.set (a-1) tl),sD x]),none]) (x:=4) (j:=1) (ds:=k.map dD) (f:=aB 2) (d:=dD .dry) rfl rfl rfl rfl (few (by rw[ai];lia));have Y:bG [D.str "dry"] 0=↑(.str "dry"):=rfl;have w:dD .dry=.tup [.str "dry"]:=rfl;have sn:=lT;have V:bG [aG (s.1.set (a-1) tl),sD x] 0=↑(aG (s.1.set (a-1) tl))/\bG [aG (s.1.set (a-1) tl),sD x] 1=↑(sD x):=⟨rfl,rfl⟩;have z:cS (sD x) ↥1=↑↥x.2.1:=rfl;have ct:aJ (bW (aB 6) (aJ (gi (ak (aW (ak (aB 11) (ak (aD iq (aB 11) (aD cS (aF 10 [:1]) [:1])) (ak (d5 uR (ak (aB 3) aC)) aC)))) aC))))
   [↑(.ag kH ↑0 (hP (k++[.dry]) (p++[s]++[eN s a x tl]))),↑(.ag .ls ↑1 [.d (aG (s.1.set (a-1) tl)),.o (k.map dD++[dD .dry]),.o (p.map dC++[dC s]),.d (bX s.2)]),!dD .dry,!aG s.1,↑(.al 1 0),↑(.al 1 1),!bX s.2,!.str "",!sD x,none,!(.lst [aG (s.1.set (a-1) tl),sD x]),!↥(cH s.2)]=↑(bX (s.2++[(cH s.2,cH s.2+x.2.1,a_ s.1.flatten)]),[↑(.ag kH ↑0 (hP (k++[.dry]) (p++[s]++[eN s a x tl]))),↑(.ag .ls ↑1 [.d (aG (s.1.set (a-1) tl)),.o (k.map dD++[dD .dry]),.o (p.map dC++[dC s]),.d (bX s.2)]),!dD .dry,!aG s.1,↑(.al 1 0),↑(.al 1 1),!bX s.2,!.str "",!sD x,none,!(.lst [aG (s.1.set (a-1) tl),sD x]),!↥(cH s.2)]):=by
  have A:cI ((s.2.map sD).length+1):=few (by rw[ai];lia);have B:bX (s.2++[(cH s.2,cH s.2+x.2.1,a_ s.1.flatten)])=.lst (s.2.map sD++[.tup [↥(cH s.2),↥(cH s.2+x.2.1),↥(a_ s.1.flatten)]]):=by unfold bX;rw[cr];rfl
  rw[B];unfold bX;simp only[aJ,bW,aB,gi,ak,aC,aW,aD,aF,bP,fC,d5,ae,af,ac,ah,V,z,iq,c,ao,bq,show 0+1+1+1<=64 by decide,show 0+1<=64 by decide,A,dm]
 refine(yv (e:=[↑(.ag kH ↑0 (hP (k++[.dry]) (p++[s]++[eN s a x tl]))),↑(.ag .ls ↑1 (cR (k++[.dry]) (p++[s]) (eN s a x tl))),!dD .dry,!aG s.1,↑(.al 1 0),↑(.al 1 1),!bX s.2,!.str "",!sD x,none,!(.lst [aG (s.1.set (a-1) tl),sD x]),!↥(cH s.2)]) rfl rfl ?_ rfl).1;rw[show lr 12 [hA k (p++[s]),(.ls,cR k p s)] [dD .dry]=[↑(.ag kH ↑0 (hP k (p++[s]))),↑(.ag .ls ↑1 (cR k p s)),!dD .dry,none,none,none,none,none,none,none,none,none] from rfl];have un:yn 1 [3,4,5,6] [↑(.ag kH ↑0 (hP k (p++[s]))),↑(.ag .ls ↑1 (cR k p s)),!dD .dry,none,none,none,none,none,none,none,none,none]=↑(.nx,[↑(.ag kH ↑0 (hP k (p++[s]))),↑(.ag .ls ↑1 (cR k p s)),!dD .dry,!aG s.1,↑(.al 1 0),↑(.al 1 1),!bX s.2,none,none,none,none,none]):=rfl;have C:cR (k++[.dry]) (p++[s]) (eN s a x tl)=[.d (aG (s.1.set (a-1) tl)),.o (k.map dD++[dD .dry]),.o (p.map dC++[dC s]),.d (bX (s.2++[(cH s.2,cH s.2+x.2.1,a_ s.1.flatten)]))]:=by unfold cR eN;simp
 have rf:qE [aG s.1,↥(k.length:Int),dD .dry]=↑(.str ""):=rf;rw[C];rw[<-S] at rf;unfold cR at *;generalize dD .dry=DD at *;subst w;simp only[n7,aE,un,ac,aH,d5,ak,aC,aB,gJ,pl,ah,ae,af,rf,av,aw];simp only[t,ah,ac,av,aw,aV,aI,aD,aB,fC,aF,bP,ae,af,jZ,bU,Y,sn,gp,gl,qi,bx,ff,aM];simp only[nm,ah,ac,d5,ak,aC,aB,ae,af,av,aw,st,je,u,v,vf,V,aF,bP,fC];simp only[aE,aH,Y,gp,dm,d5,ak,aC,aB,ae,af,av,aw,ah,ac,q,dO,r,vf,ct,aK,aF,bP,fC,V,Z]
def AZ{α:Type}:∀(ss:List (List α)) (i:Nat) (t t':List α),ss[i]?=↑t->∃A B,ss.flatten=A++(t++B)/\(ss.set i t').flatten=A++(t'++B)
 |y::r,0,t,t',h=>by
   simp at h;subst h;exact⟨[],r.flatten,rfl,rfl⟩
 |y::r,i+1,t,t',h=>by
   obtain⟨A,B,h1,h2⟩:=AZ r i t t' (by simpa using h);exact⟨y++A,B,by simp[h1],by simp[h2]⟩
theorem HI.push(h:HI n k p s)(Y:k.length<60)(U:SI n (k.length+1) s')(st:F1 k s d s'):HI n (k++[d]) (p++[s]) s':=by
 have V:(p++[s]).length=k.length+1:=by simp[h.kp]
 have lt:∀i,i<=k.length->(p++[s]++[s'])[i]?=(p++[s])[i]?:=λi c=>ay ∅;have S:(p++[s]++[s'])[k.length+1]?=↑s':=by rw[<-V,lv]
 refine⟨h.n5,by simp;lia,by simp[h.kp],λi t D=>?_,by rw[lt 0 ∅];exact h.st0,λi d' t t' h1 h2 I=>?_⟩
 ·by_cases c:i<=k.length
  ·exact h.all i t (lt i c ▸ D)
  ·obtain rfl:i=k.length+1:=by have:=(aj.mp D).1;simp[h.kp] at this;lia
   rw[S] at D;cases D;exact U
 ·by_cases c:i<k.length
  ·rw[i9 ∅]
   exact h.tr i d' t t' (by rwa [ay c] at h1) (by rwa [lt i ∅] at h2) (by rwa [lt _ c] at I)
  ·obtain rfl:i=k.length:=by have:=(aj.mp h1).1;simp at this;lia
   rw[lv] at h1;rw[lt _ (cw _),<-h.kp,lv] at h2;rw[S] at I;cases h1;cases h2;cases I;rw[yg];exact st
theorem HI.pop(h:HI n (k++[d]) (p++[s]) s'):HI n k p s:=by
 have kp:p.length=k.length:=by have:=h.kp;simp at this;exact this
 have I:∀ {i t},(p++[s])[i]?=↑t->(p++[s]++[s'])[i]?=↑t:=λD=>by rw[ay (aj.mp D).1];exact D
 refine⟨h.n5,by have:=h.k60;simp at this;lia,kp,λi t D=>h.all i t (I D),by have:=h.st0;rwa [ay ⋯] at this,λi d' t t' h1 h2 S=>?_⟩;have c:=(aj.mp h1).1;have:=h.tr i d' t t' (by rw[ay c];exact h1) (I h2) (I S);rwa [i9 ∅] at this
theorem SI.swap{t':ll}(h:SI n i s)(I:s.1[a]?=↑t)(S:s.1.flatten.length+t'.length<=14+t.length)(U:∀x∈t',(∀y∈t,j5 y)->j5 x):SI n (i+1) (s.1.set a t',s.2):=by
 obtain⟨A,B,h1,h2⟩:=AZ s.1 a t t' I;have g:=h.good;rw[h1] at g S;refine⟨by rw[d6];exact h.len,?_,?_,h.chain,h.rate,sx h.sp,h.hour⟩
 ·show(s.1.set a t').flatten.length<=14
  rw[h2];simp at *
  lia
 ·intro x D
  rw[h2,dg,dg] at D;rcases D with q |q |q
  ·exact g x (by simp[q])
  ·exact U x q λy V=>g y (by simp[V])
  ·exact g x (by simp[q])
theorem NR(k:lx):1<=lz k/\lz k<=k.length+1:=by
 unfold lz;have:=List.length_filter_le eE.isPut k
 lia
theorem F9:∀(l:ll),(∀x∈l,j5 x)->0<=a_ l/\a_ l<=100*l.length
 | [],_=>⟨by decide,by decide⟩ |x::r,h=>by
   have S:=F9 r λy D=>h y (by simp[D]);have I:=h x ⋯;unfold j5 at I;have e:a_ (x::r)=x.2.2+a_ r:=by simp[a_]
   rw[e,ao]
   lia
theorem SI.dry(h:SI n i s)(I:s.1[a-1]?=↑(x::tl)):SI n (i+1) (eN s a x tl):=by
 have q:=h.swap (t':=tl) I (by have:=h.few;rw[ao];lia) λy D S=>S y (by simp[D]);have U:j5 x:=h.good x (by
  obtain⟨A,B,h1,_⟩:=AZ s.1 (a-1) (x::tl) tl I;rw[h1];simp)
 have V:=F9 s.1.flatten h.good;have Z:=h.few;have b:=h.hour;have Y:=h.sp;unfold j5 at U;refine⟨q.len,q.few,q.good,?_,?_,?_,?_⟩
 ·exact Fs _ _ _ h.chain (AT s.2) (by show cH s.2<=cH s.2+x.2.1;lia)
 ·intro y D
  have D:y∈s.2++[(cH s.2,cH s.2+x.2.1,a_ s.1.flatten)]:=D;rw[dg,dc] at D;rcases D with D |rfl
  ·exact h.rate y D
  ·show 0<=a_ s.1.flatten/\a_ s.1.flatten<=100000
   lia
 ·show(s.2++[_]).length<=i+1
  simp;lia
 ·show vd 0 (s.2++[(cH s.2,cH s.2+x.2.1,a_ s.1.flatten)])<=60*((s.2++[(cH s.2,cH s.2+x.2.1,a_ s.1.flatten)]).length:Int)
  rw[AS,AT,ax];simp
  lia
def FB{l:List α}(h:l≠[]):∃m x,l=m++[x]:=⟨l.dropLast,l.getLast h,(List.dropLast_concat_getLast h).symm⟩
def Mv(k:lx)(p:l1)(s:Hs)(c:hO)(k':lx)(p':l1)(s':Hs):Prop:=match cB s.1 k.length c with |some _=>k'=k/\p'=p/\s'=s |none=>match c with | .back=>∃d,k=k'++[d]/\p=p'++[s'] | .d d=>k'=k++[d]/\p'=p++[s]
def iU(n:Nat)(k:lx)(p:l1)(s:Hs)(c:hO):Prop:=∃k' p' s',HI n k' p' s'/\vq [hA k (p++[s]),(.ls,cR k p s)] [cD c]=↑(.bl true,[hA k' (p'++[s']),(.ls,cR k' p' s')])/\Mv k p s c k' p' s'
protected def Mv.d(h:cB s.1 k.length (.d d)=none):Mv k p s (.d d) (k++[d]) (p++[s]) s':=by
 unfold Mv;rw[h];exact⟨rfl,rfl⟩
def HI.l5(hi:HI n k p s):s.1.length<=5:=by rw[hi.at.len];exact hi.n5
theorem HI.r14(hi:HI n k p s):∀y∈s.1,y.length<=14:=λy D=>by
 have h2:=(gc D).length_le;have:=hi.at.few
 lia
theorem A_(hi:HI n k p s)(hd:F5 d=false)(D:k.length<60)(h:cB s.1 k.length (.d d)=none)(I:eV (.d d) [hA k (p++[s])] (gY (.d d))=none)(h1:hU (.d d) [hA k (p++[s])] (gY (.d d))=↑(ans,[hA (k++[d]) (p++[s]++[(ss',s.2)])]))(st:vt [aG s.1,dD d,↥(lz k)]=↑(.lst [aG ss',ans]))(S:nu [ans,ans]=↑(.bl true))(U:noL ans=true)(V:SI n (k.length+1) (ss',s.2)):iU n k p s (.d d) :=
 ⟨_,_,_,hi.push D V ⟨h,ans,st,by cases d <;> first |rfl |cases hd⟩,NM hi hd h ∅ (AY (.d d) I h1) st S U,Mv.d h⟩
variable{a:Int}
theorem NT{l:Int}(hi:HI n k p s)(h:cB s.1 k.length (.d (.put a b l))=none):iU n k p s (.d (.put a b l)):=by
 have hx:fS s.1 k.length a b l=none:=h;have D:=hx;have l5:=hi.l5;have kp:=hi.kp;have f:=hi.k60;unfold fS at D
 (repeat' split at D) <;> try cases D
 rename_i U g i j V;obtain⟨a,rfl⟩:=j3 (show 0<=a by lia);have S:=Nl (p:=p) hx l5 ∅;have I:=xt U;rw[show((a:Int).toNat-1)=a-1 by simp] at I;have m:=hi.r14 _ (bh I);have sp:=NF (num:=lz k) (h:=b) (l:=l) (a:=a) (ss:=s.1) ∅ ∅ l5 ∅;have Y:=NR k;have Z:j5 (lz k,b,l):=⟨Y.1,by show lz k<=60;lia,by show 1<=b;lia,by show b<=60;lia,by show 0<=l;lia,by show l<=100;lia⟩;have c:SI n (k.length+1) (gC s.1 a (lz k,b,l),s.2):=hi.at.swap I (by rw[ao];lia) λx hx e=>by
  rw[b6] at hx;rcases hx with hx |hx
  ·rw[hx];exact Z
  ·exact e x hx
 exact A_ hi rfl V h S.1 S.2 sp (F7 _).1 rfl c
theorem NU{m l:Int}(hi:HI n k p s)(h:cB s.1 k.length (.d (.tell a m l))=none):iU n k p s (.d (.tell a m l)):=by
 have D:t3 s.1 k.length a m l=none:=h;have l5:=hi.l5;have kp:=hi.kp;have f:=hi.at.few;unfold t3 at D
 (repeat' split at D) <;> try cases D
 rename_i Y Z b i S;obtain⟨a,rfl⟩:=j3 (show 0<=a by lia);obtain⟨m,rfl⟩:=j3 (show 0<=m by lia);have I:=xt Y;rw[show((a:Int).toNat-1)=a-1 by simp] at I Z b;have j:=hi.r14 _ (bh I);obtain⟨x,hx2⟩:∃x,(s.1.getD (a-1) [])[m-1]?=↑x:=⟨_,bc ∅⟩;have U:=N0 (k:=k) (p:=p) (s:=s) (l:=l) I hx2 ∅ ∅ ∅ ∅ S l5 ∅ ∅;have sp:=NG (num:=lz k) (l:=l) I hx2 ∅ ∅ l5;have c:SI n (k.length+1) (s.1.set (a-1) ((s.1.getD (a-1) []).set (m-1) (x.1,x.2.1,l)),s.2):=hi.at.swap I (by rw[d6];lia) λz e V=>by
  rcases List.mem_or_eq_of_mem_set e with q |q
  ·exact V z q
  ·have g:=V x (bh hx2)
   rw[q];exact⟨g.1,g.2.1,g.2.2.1,g.2.2.2.1,by show 0<=l;lia,by show l<=100;lia⟩
 exact A_ hi rfl S h U.1 U.2 sp (F7 _).1 rfl c
theorem NV(hi:HI n k p s)(h:cB s.1 k.length (.d (.go a))=none):iU n k p s (.d (.go a)):=by
 have D:jA s.1 k.length a=none:=h;have l5:=hi.l5;have kp:=hi.kp;have f:=hi.at.few;unfold jA at D
 (repeat' split at D) <;> try cases D
 rename_i Z S V;obtain⟨a,rfl⟩:=j3 (show 0<=a by lia);have I:=xt Z;rw[show((a:Int).toNat-1)=a-1 by simp] at I S;have U:=hi.r14 _ (bh I);obtain⟨x,tl,et⟩:∃x tl,s.1.getD (a-1) []=x::tl:=by
  cases q:s.1.getD (a-1) [] with
  |nil=>rw[q] at S;simp at S |cons x tl=>exact⟨x,tl,rfl⟩
 rw[et] at I U;have U:tl.length+1<=14:=by simpa using U
 have Y:=Ny (k:=k) (p:=p) (s:=s) I ∅ V l5 ∅;have sp:=NH (num:=lz k) I ∅ l5 ∅;have b:SI n (k.length+1) (s.1.set (a-1) tl,s.2):=hi.at.swap I (by rw[ao];lia) λz c e=>e z (by simp[c]);exact A_ hi rfl V h Y.1 Y.2 sp (F8 x).1 rfl b
theorem NW(hi:HI n k p s)(h:cB s.1 k.length (.d .dry)=none):iU n k p s (.d .dry):=by
 have D:hL s.1 k.length=none:=h;have l5:=hi.l5;have kp:=hi.kp;have I:=hi.at;have S:=I.few;unfold hL at D
 (repeat' split at D) <;> try cases D
 rename_i e V;obtain⟨ts,ok,U⟩:=LV s.1 I.good S;have f:=Mp ok U S;have g:=Ml ok I.good S ∅;cases ts with
 |nil =>
   have:=ok.perm.length_eq;simp only[dw,List.flatten_nil,bq] at this
   lia
 |cons t ts =>
   obtain⟨a,b⟩:=t;have i:=(ok.good (a,b) ⋯).ne;cases b with
   |nil=>exact absurd rfl i
   |cons x r =>
     obtain⟨tl,j,h1,h2,o,_⟩:=ME ok I.good S;have Y:=hi.r14;have Z:=Y _ (bh h1);have Z:tl.length+1<=14:=by simpa using Z
     have l:=I.sp;have c:=Nv (k:=k) (p:=p) (s:=s) f h1 h2 V l5 ∅ (λy m=>by have:=Y y m;lia) ∅ e;have sp:=NI (num:=lz k) g h1 h2 l5 ∅;exact⟨_,_,_,hi.push V (I.dry h1) ⟨h,sD x,sp,x,rfl,rfl⟩,NQ hi h (AY (.d .dry) c.1 c.2) sp,Mv.d h⟩
def NX(c:hO)(hi:HI n k p s):iU n k p s c:=by
 cases h:cB s.1 k.length c with
 |some x=>exact⟨k,p,s,hi,NL hi h,by unfold Mv;rw[h];exact⟨rfl,rfl,rfl⟩⟩ |none =>
 cases c with
 |back =>
   have D:k≠[]:=λe=>by subst e;simp[cB] at h
   have I:p≠[]:=λe=>by subst e;exact D (ku hi.kp.symm)
   obtain⟨k0,d,rfl⟩:=FB D;obtain⟨S,U,rfl⟩:=FB I;exact⟨k0,S,U,hi.pop,NO hi,by unfold Mv;rw[h];exact⟨d,rfl,rfl⟩⟩
 |d y =>
   cases y with
   |put a b l=>exact NT hi h
   |tell a m l=>exact NU hi h
   |go a=>exact NV hi h |dry=>exact NW hi h
theorem NY(Y:n<=5):uU [↥n]=↑(.ls,cR [] [] (eT n)):=by
 have I:cI (bS 0 n).length:=few (by rw[x8];lia);have c:=qz (te:=aJ (gi aC)) (base:=[]) (λi:Nat=>D.int (0+(i:Int))) (λ_:Nat=>D.lst []) (List.range n) λi _=>⟨_,rfl⟩;have U:bS 0 n=(List.range n).map λi:Nat=>D.int (0+(i:Int)):=rfl;have V:(List.range n).map (λ_:Nat=>D.lst [])=(List.replicate n ([]:ll)).map λs=>D.lst (s.map sD):=by rw[List.map_const',j9,qp,dw]
 have S:=qb n ∅;unfold bS at S;rw[V] at c;rw[U] at I;unfold uU iQ;rw[am (show[D.int (n:Int)].length=1 from rfl),show ki 1 [D.int (n:Int)]=[!↥n] from rfl];simp only[AH,sV,kJ,p4,p5,lL,aJ,jf,io,ak,aB,aC,gi,ae,ac,ah,S,I,dm,dw,c,bq,ie];rw[show dE [↑(Sl.sh (D.int (n:Int)))]=[!↥n] from rfl];simp only[ae,ac,ah,S,I,dm,c,ao,bq,show 0+1+1+1+1<=64 by decide];rfl
def HI.new(D:n<=5):HI n [] [] (eT n) :=
 ⟨D,by simp,rfl,λi t h=>by
  have e:i=0/\t=eT n:=by
   cases i with
   |zero=>simp at h;exact⟨rfl,h.symm⟩ |succ m=>simp at h
  obtain⟨rfl,rfl⟩:=e;have z:(eT n).1.flatten=[]:=by simp[eT]
  exact⟨by simp[eT],by rw[z];simp,by rw[z];simp,trivial,λx h=>by simp[eT] at h,by simp[eT],by simp[eT,vd]⟩,rfl,λi d t t' h=>by simp at h⟩
theorem NZ(z:Int):∃n:Nat,n<=5/\uT [↥z]=↑↥n:=by
 have h:z % 12=0\/z % 12=1\/z % 12=2\/z % 12=3\/z % 12=4\/z % 12=5\/z % 12=6\/z % 12=7\/z % 12=8\/z % 12=9\/z % 12=10\/z % 12=11:=by lia
 have q:∀r:Int,bF ↥z ↥12=↑↥r->∀v,cS (.lst [↥5,↥3,↥2,↥4,↥1,↥5,↥0,↥4,↥3,↥5,↥2,↥4]) ↥r=↑v->uT [↥z]=↑v:=λr h1 v h2=>by
  refine mf (e':=[!↥z]) rfl ?_;rw[show ki 1 [D.int z]=[!↥z] from rfl];simp only[Fd,aK,aD,aJ,gi,ak,aC,fC,aB,ae,ac,ah];rw[am (by decide)];simp only[h1,h2,ac,ah,ae]
 have m:bF ↥z ↥12=↑↥(z % 12):=by
  simp[bF]
 rcases h with h |h |h |h |h |h |h |h |h |h |h |h <;> rw[h] at m <;> exact⟨_,by decide,q _ m ↥((_:Nat):Int) rfl⟩
theorem vE(a b c d x:Int):∃v:Int,cS (.lst [↥a,↥b,↥c,↥d]) ↥(x % 4)=↑↥v:=by
 have h:x % 4=0\/x % 4=1\/x % 4=2\/x % 4=3:=by lia
 rcases h with h |h |h |h <;> rw[h] <;> exact⟨_,rfl⟩
theorem N_(x:Int):∃w:Str,bG [D.str "put",.str "put",.str "tell",.str "dry",.str "put",.str "go",.str "put",.str "put",.str "back",.str "tell",.str "put",.str "dry"] (x % 12)=↑(.str w)/\(w = "put"\/w = "tell"\/w = "go"\/w = "dry"\/w = "back"):=by
 have h:x % 12=0\/x % 12=1\/x % 12=2\/x % 12=3\/x % 12=4\/x % 12=5\/x % 12=6\/x % 12=7\/x % 12=8\/x % 12=9\/x % 12=10\/x % 12=11:=by lia
 rcases h with h |h |h |h |h |h |h |h |h |h |h |h <;> rw[h] <;> exact⟨_,rfl,by simp⟩
variable{b:Bool}{F:FE}{v0:Int}
def Oa{c:FT}(D:c e=↑(b,e))(I:e[i]?=↑⇑↥v0)(S:b=true->∃v:Int,F e=↑(.int v,e)):∃v:Int,aV c (aH i F) aM e=↑(.nx,e.set i ⇑↥v):=by
 cases b with
 |false =>
   refine⟨v0,?_⟩;have:e.set i ⇑↥v0=e:=by
    apply fo;intro j;rw[jg];split
    ·rename_i q
     subst q;rw[I,am (aj.mp I).1]
    ·rfl
   rw[this];simp[D]
 |true =>
   obtain⟨v,U⟩:=S rfl;exact⟨v,by simp[D,U]⟩
theorem yj(x j:Int)(h:1<=j/\j<=10000):cK ↥x ↥j=↑↥(x / j):=by
 exact am ⟨by lia,by lia⟩
theorem vb(x j:Int)(h:1<=j):bF ↥x ↥j=↑↥(x % j):=am ∅
def Ob{z n I o f a h l t p:D}{S:D}{A H L P:Int}(U:w = "put"\/w = "tell"\/w = "go"\/w = "dry"\/w = "back") :
  ∃c e',(aE (aV (aI (aD bU (aB 4) (fC (.str "put")))) (aK (aW (ak (fC (.str "put")) (ak (aB 7) (ak (aB 8) (ak (aB 9) (aC))))))) (aM)) (aE (aV (aI (aD bU (aB 4) (fC (.str "tell")))) (aK (aW (ak (fC (.str "tell")) (ak (aB 7) (ak (aB 11) (ak (aB 9) (aC))))))) (aM)) (aE (aV (aI (aD bU (aB 4) (fC (.str "go")))) (aK (aW (ak (fC (.str "go")) (ak (aB 7) (aC))))) (aM)) (aK (aW (ak (aB 4) (aC)))))))
   [!z,!S,!n,!I,!.str w,!o,!f,!↥A,!↥H,!↥L,!t,!↥P]=↑(.rt (cD c),e'):=by
 have sn:=lT;have s2:(("back" : Str) = "put")=False/\(("back" : Str) = "tell")=False/\(("back" : Str) = "go")=False/\(("dry" : Str) = "put")=False/\(("dry" : Str) = "tell")=False/\(("dry" : Str) = "go")=False:=by
  refine⟨?_,?_,?_,?_,?_,?_⟩ <;> exact i6 (by decide)
 rcases U with rfl |rfl |rfl |rfl |rfl
 ·exact⟨.d (.put A H L),_,by simp[cD,dD];rfl⟩
 ·exact⟨.d (.tell A P L),_,by simp[cD,dD,sn];rfl⟩
 ·exact⟨.d (.go A),_,by simp[cD,dD,sn];rfl⟩
 ·exact⟨.d .dry,_,by simp[cD,dD,sn,s2];rfl⟩
 ·exact⟨.back,_,by simp[cD,dD,sn,s2];rfl⟩
def lV(r:Option (Fl×aP)):Prop:=∃c e',r=↑(.rt (cD c),e')
def gK(h:F e=↑(v,e))(k:lV (g (e.set i ⇑v))):lV (aE (aH i F) g e):=by
 rw[show aE (aH i F) g e=g (e.set i ⇑v) by simp[h]];exact k
def qP{c:FT}(D:c e=↑(b,e))(I:e[i]?=↑⇑↥v0)(S:b=true->∃v:Int,F e=↑(.int v,e))(k:∀v:Int,lV (g (e.set i ⇑↥v))):lV (aE (aV c (aH i F) aM) g e):=by
 obtain⟨v,U⟩:=Oa D I S;rw[show aE (aV c (aH i F) aM) g e=g (e.set i ⇑↥v) by simp only[aE,U,ac]];exact k v
def Ba{f:FS}{D:aP}(h:f e=↑(.nx,D))(k:lV (g D)):lV (aE f g e):=by
 rw[show aE f g e=g D by simp[h]];exact k
theorem Oc(z:Int)(ss:ln):∃c,nt [↥z,aG ss]=↑(cD c):=by
 suffices U:lV (Fe [!↥z,!aG ss,none,none,none,none,none,none,none,none,none,none]) from let ⟨c,_,U⟩:=U;⟨c,mf rfl U⟩;obtain⟨w,k,m⟩:=N_ z;have V:=yj z 12 (by decide);have Y:=vb z 12 (by decide);have S:fO ↥10 ↥12=↑↥1000000000000:=rfl;refine gK (v:=.int (ss.length:Int)) (by unfold aG;simp) ?_;refine gK (v:=.lst [.str "put",.str "put",.str "tell",.str "dry",.str "put",.str "go",.str "put",.str "put",.str "back",.str "tell",.str "put",.str "dry"]) rfl ?_;refine gK (v:=.str w) (by simp[Y,k]) ?_;refine gK (v:=.int (z / 12 % 16)) (by simp[V,vb]) ?_;refine gK (v:=.int (z / 192)) (by simp[yj]) ?_;generalize z / 12 % 16=O at *;generalize z / 192=F at *;have d:∀(x:Int) (t:Int),∃v:Int,(match D.int x,D.int (if 1 > t then 1 else t) with | .int i,.int j=>bF ↥i ↥j |_,_=>none)=↑↥v:=λx t=>⟨_,vb x _ (by split <;> lia)⟩;obtain⟨e,n⟩:=d F ss.length;refine gK (v:=.int (1+e)) (by simp[n]) ?_;refine gK (v:=.int (F / 5)) (by simp[yj]) ?_;simp only[av,aw];generalize F / 5=G at *;refine qP (b:=decide (O=5) || decide ((ss.length:Int)=0)) (v0:=1+e) (by by_cases q:O=5 <;> simp[q]) rfl (λ_=>?_) λA=>?_
 ·obtain⟨v,I⟩:=vE 0 (ss.length+1) (-1) 1000000000000 G
  exact⟨v,by simp only[aD,aJ,gi,ak,aC,fC,aB,gF,dN,iq,S,vb G 4 (by decide),I,ae,af,ac,ah,ao,bq,show 0+1+1+1+1<=64 by decide,dm]⟩
 refine gK (v:=.int (1+G % 60)) (by simp[vb]) ?_;simp only[av,aw];refine qP (b:=decide (O=6)) (v0:=1+G % 60) ⋯ rfl (λ_=>?_) λH=>?_
 ·obtain⟨v,I⟩:=vE 0 61 (-1) 1000000000000 G
  exact⟨v,by simp only[aD,aJ,gi,ak,aC,fC,aB,gF,dN,S,vb G 4 (by decide),I,ae,af,ac,ah,ao,bq,show 0+1+1+1+1<=64 by decide,dm]⟩
 refine gK (v:=.int (G / 60 % 101)) (by simp[vb,yj]) ?_;generalize G / 60 % 101=L at *;obtain⟨H2,Z,h2⟩:∃H2 Z:Int,aV (aI (aD d_ (aB 5) [:9])) (aE (aH 8 (aD iq [:1] (aD bF (aB 8) [:3]))) (aH 9 (aD bF (aB 9) [:4]))) aM [!↥z,!aG ss,!↥(ss.length:Int),!(.lst [.str "put",.str "put",.str "tell",.str "dry",.str "put",.str "go",.str "put",.str "put",.str "back",.str "tell",.str "put",.str "dry"]),!.str w,!↥O,!↥G,!↥A,!↥H,!↥L,none,none]=↑(.nx,[!↥z,!aG ss,!↥(ss.length:Int),!(.lst [.str "put",.str "put",.str "tell",.str "dry",.str "put",.str "go",.str "put",.str "put",.str "back",.str "tell",.str "put",.str "dry"]),!.str w,!↥O,!↥G,!↥A,!↥H2,!↥Z,none,none]):=by
  by_cases q:9<O
  ·exact⟨1+H % 3,L % 4,by simp[q,vb]⟩
  ·exact⟨H,L,by simp[q]⟩
 refine Ba h2 ?_;refine qP (b:=decide (O=7)) (v0:=Z) ⋯ rfl (λ_=>?_) λr=>?_
 ·obtain⟨v,I⟩:=vE (-1) 101 (-1000000000000) 1000000000000 (G / 60)
  exact⟨v,by simp only[aD,aJ,gi,ak,aC,fC,aB,gF,dN,S,yj G 60 (by decide),vb (G / 60) 4 (by decide),I,ae,af,ac,ah,ao,bq,show 0+1+1+1+1<=64 by decide,dm]⟩
 refine qP (b:=decide (1<=A) && decide (A<=(ss.length:Int))) (v0:=0) (by by_cases q:1<=A <;> simp[q]) rfl (λq=>?_) λT=>?_
 ·simp only[d9,iw] at q
  have f:=ve (a:=A.toNat) (xt (ss:=ss) (a:=A) ∅) ∅;rw[show((A.toNat:Nat):Int)=A by lia] at f;exact⟨_,by unfold aG at *;simp[f];rfl⟩
 obtain⟨g,o⟩:=d (G / 6060) T;refine gK (v:=.int (1+g)) (by simp[yj G 6060 (by decide),o]) ?_;simp only[av,aw];refine qP (b:=decide (O=8)) (v0:=1+g) ⋯ rfl (λ_=>?_) λP=>?_
 ·obtain⟨v,I⟩:=vE 0 (T+1) (-1) 1000000000000 (G / 6060)
  exact⟨v,by simp only[aD,aJ,gi,ak,aC,fC,aB,gF,dN,iq,S,yj G 6060 (by decide),vb (G / 6060) 4 (by decide),I,ae,af,ac,ah,ao,bq,show 0+1+1+1+1<=64 by decide,dm]⟩
 exact Ob (z:=.int z) (h:=.non) (l:=.non) (a:=.non) (p:=.non) m
variable{F:FA}{l':Option Nat}
def Od{S I:k7}{d:D}(V:i≠j)(h:e[i]?=↑↑(.ag κ l ps))(h':e[j]?=↑↑(.ag κ' l' S))(Y:F e=↑(ds,e))(Z:m [(κ,ps),(κ',S)] ds=↑(d,[(κ,ps'),(κ',I)])) :
  me m [i,j] F e=↑(d,(e.set i ↑(.ag κ l ps')).set j ↑(.ag κ' l' I)):=by
 unfold me;rw[am (show dW e [i,j] from λk U=>by
  simp at U;rcases U with rfl |rfl
  ·exact⟨_,h⟩
  ·exact⟨_,h'⟩),Y]
 have a:(e.set i ↑(.ag κ l ps'))[j]?=↑↑(.ag κ' l' S):=by rw[dy V];exact h'
 simp[dV,h,h',Z,dJ,a]
theorem Oe(cs:ik)(a b:kb):∃I:ik,cutD (cs.map D.int) a b=I.map D.int/\I.length<=cs.length:=by
 unfold cutD;rw[<-qh,<-qg];exact⟨_,rfl,by simp only[d8,fu];lia⟩
def Of(h:e[j]?=↑↑(.ag .ls l ps)):(frz false e)[j]?=↑⇑(.lst (ps.map lK)):=by
 unfold frz;rw[cb,h];rfl
def Og(a:FS):aE a aM=a:=by
 funext e;simp;cases a e with
 |none=>rfl |some r=>obtain⟨fl,D⟩:=r;cases fl <;> rfl
abbrev EL(A B C:k8)(k:lx)(p:l1)(s:Hs)(r:aP):aP:=A::B::C::↑(.ag kH none (hP k (p++[s])))::↑(.ag .ls none (cR k p s))::r
def vF(x:Nat)(R:FS):FS:=aE (aV (cW (aI (me vq [3,4] (ak (d5 nt (ak (aB x) (ak (gU 4 0) aC))) aC)))) (aK (fC (.bl false))) aM) R
def Oh(I:i≠j)(hi:HI n k p s)(h:e[i]?=↑↑(.ag kH l (hP k (p++[s]))))(h':e[j]?=↑↑(.ag .ls l' (cR k p s)))(S:F e=↑([cD c],e)) :
  ∃k' p' s',HI n k' p' s'/\me vq [i,j] F e=↑(.bl true,(e.set i ↑(.ag kH l (hP k' (p'++[s'])))).set j ↑(.ag .ls l' (cR k' p' s')))/\Mv k p s c k' p' s':=by
 obtain⟨k',p',s',D,hd,U⟩:=NX c hi;exact⟨k',p',s',D,Od I h h' S hd,U⟩
theorem Mv.len{k':lx}{p':l1}(h:Mv k p s c k' p' s'):k'.length<=k.length+1:=by
 unfold Mv at h;split at h
 ·rw[h.1];lia
 ·cases c with
  |back=>obtain⟨d,e,_⟩:=h;rw[e];simp;lia |d d=>rw[h.1];simp
theorem FC{A B C:k8}{r:aP}{n:Nat}:∀(I:ik) (k:lx) (p:l1) (s:Hs) (v:k8),HI n k p s ->
  ∃k' p' s' U,HI n k' p' s'/\k'.length<=k.length+I.length/\cF 5 (vF 5 aM) (I.map D.int) (EL A B C k p s (v::r))=↑(.nx,EL A B C k' p' s' (U::r))
 | [],k,p,s,v,hi=>⟨k,p,s,v,hi,by simp,rfl⟩ |z::I,k,p,s,v,hi=>by
   obtain⟨c,V⟩:=Oc z s.1;have Y:gU 4 0 (EL A B C k p s (⇑↥z::r))=↑(aG s.1,EL A B C k p s (⇑↥z::r)):=rfl;obtain⟨k1,p1,S,h1,hd,Z⟩:=Oh (e:=EL A B C k p s (⇑↥z::r)) (i:=3) (j:=4) (c:=c) (F:=ak (d5 nt (ak (aB 5) (ak (gU 4 0) aC))) aC) (by decide) hi rfl rfl (by simp only[ak,d5,aB,aC,Y,V,ae,af,ac,ah]);obtain⟨k2,p2,s2,v2,h2,d,a⟩:=FC (A:=A) (B:=B) (C:=C) (r:=r) I k1 p1 S ⇑↥z h1;have:=Z.len;refine⟨k2,p2,s2,v2,h2,by rw[ao];lia,?_⟩;have b:vF 5 aM (EL A B C k p s (⇑↥z::r))=↑(.nx,EL A B C k1 p1 S (⇑↥z::r)):=by
    simp only[vF,aE,aV,cW,aI,hd,ac,ah,qi,bx,ff,aM];rfl
   rw[b9,cF,show(EL A B C k p s (v::r)).set 5 ⇑↥z=EL A B C k p s (⇑↥z::r) from rfl,b];exact a
def flat(ts:lp):ll:=(ts.map (·.2)).flatten
abbrev vG:=Nat×Sk
def non(a:Nat)(L:List vG):ll:=(L.filter λe=>not (e.1==a)).map (·.2)
def stk(ss:ln)(c:Nat):ll:=if c=0 then[] else ss.getD (c-1) []
def chg(a:Nat)(l:Int):Nat->List vG->List vG
 |_,[]=>[] |n,e::L=>if e.1=a then(match n with |0=>(e.1,(e.2.1,e.2.2.1,l))::L |n+1=>e::chg a l n L) else e::chg a l n L
def chgN{a d:Nat}(h:d≠a)(l:Int)(x:Sk)(L:List vG)(n:Nat):chg a l n ((d,x)::L)=(d,x)::chg a l n L:=by cases n <;> simp[chg,h]
def hd(t:Tn):Int:=(t.2.headD (0,0,0)).1
def beg(T:ll)(n:Int):Int:=aU (T.takeWhile λx=>not (x.1==n))
abbrev Rn:=Bool×Int×Int×Int×Int
inductive lX (N:Int):List Rn->Int->Prop
 |nil:lX N [] 0
 |cons {r:Rn} {l:List Rn} {v V:Int}:N*r.2.2.2.1=v*r.2.2.2.2->lX N l V->lX N (r::l) (v+V)
structure St (l:ik) (w m s:Int):Prop where
 w:w=l.length
 e:l=[]->m=-1/\s=0
 n:l≠[]->m∈l/\(∀x∈l,m<=x)/\s=l.count m
end LB
namespace SQ
open PySem L2 LB
def u7:FS:=aE (aV (aI (aD bU (aF 2 (aD aZ (aB 3) [:1])) [:0])) (mj "EmptyStack" ((λz=>(↑z).bind ((λz=>((vInt (aB 3)) z).bind ((λz=>(↑z).bind (some)))))))) (aM)) (uj 2 aZ (aD aZ (aB 3) [:1]) [:1])
def qQ:FS:=aE (cQ 2 (jf (cP (aB 0)) [] b_ (jh 0))) (aE (bY 3 (cP (aB 1)) (u7)) (aV (aI (aD d_ (we 2) [:0])) (mj "ShortOrder" (some)) (aM)))
def qR:k9->k4->k6:=bL 4 0 2 qQ
def zl:k9->k4->ka:=xQ 4 0 2 qQ
def zn:FS:=cA (j2 vy [] (ak (aB 0) (ak (aB 2) (aC)))) (je (iz x9 [] (ak (aB 0) (ak (aB 2) (aC)))))
def zk:FS:=aE (bY 2 (cP (aB 1)) (zn)) (cA (j2 zl [] (ak (aB 0) (ak (aB 1) (aC)))) (je (iz qR [] (ak (aB 0) (ak (aB 1) (aC))))))
def vH:k9->k4->k6:=bL 3 0 2 zk
def qS:k9->k4->ka:=xQ 3 0 2 zk
def Oi:FS:=aE (je (oj 3 (aD cS (aF 0 (aD aZ (aB 4) [:1])) (aF 2 (aD aZ (aB 4) [:1]))))) (uj 2 iq (aD aZ (aB 4) [:1]) [:1])
def Bb:FS:=aE (cA (j2 qS [] (ak (aB 0) (ak (aB 1) (aC)))) (je (iz vH [] (ak (aB 0) (ak (aB 1) (aC)))))) (aE (cQ 2 (jf (cP (aB 0)) [] b_ [:0])) (aE (cQ 3 (gi (aC))) (aE (bY 4 (cP (aB 1)) (Oi)) (aK (aB 3)))))
def nB:k9->k4->k6:=bL 5 0 2 Bb
def u6:k9->k4->ka:=xQ 5 0 2 Bb
def Oj:FS:=aE (aH 6 (aD iq (aB 3) (d5 rq (ak (aB 5) (aC))))) (aE (je (oj 2 (aW (ak (d5 oq (ak (aB 5) (aC))) (ak (aB 4) (ak (aB 3) (ak (aB 6) (aC)))))))) (aH 3 (aB 6)))
def Bc:FS:=aE (cQ 2 (gi (aC))) (aE (aH 3 [:0]) (aE (cA (xm (aB 1) (j2 u6 [] (ak (aB 0) (ak (aB 1) (aC))))) (qa [4,5] (io lD (ak (aB 1) (ak (iz nB [] (ak (aB 0) (ak (aB 1) (aC)))) (aC)))) (Oj))) (aK (aB 2))))
def Be:k9->k4->k6:=bL 7 0 2 Bc
def zj:k9->k4->ka:=xQ 7 0 2 Bc
def Ol:FS:=aE (aH 3 (aD iq (aB 3) (d5 rq (ak (aB 4) (aC))))) (aH 2 (aD iq (aB 2) (aD cN (d5 vv (ak (aB 4) (aC))) (aB 3))))
def Bf:FS:=aE (aH 2 [:0]) (aE (aH 3 [:0]) (aE (cA (j2 u6 [] (ak (aB 0) (ak (aB 1) (aC)))) (bY 4 (cP (iz nB [] (ak (aB 0) (ak (aB 1) (aC))))) (Ol))) (aK (aB 2))))
def Bg:k9->k4->k6:=bL 5 0 2 Bf
def zi:k9->k4->ka:=xQ 5 0 2 Bf
def Om:FS:=aV (aI (aD gG (aD uh (aB 2) (d5 oq (ak (aB 7) (aC)))) (aD uh (aB 2) (d5 oq (ak (aB 6) (aC)))))) (aE (aH 8 (d5 x6 (ak (d5 pR (ak (aB 6) (aC))) (ak (d5 pR (ak (aB 7) (aC))) (aC))))) (je (oj 4 (aW (ak (d5 oq (ak (aB 6) (aC))) (ak (d5 oq (ak (aB 7) (aC))) (ak (aB 8) (aC)))))))) (aM)
def On:FS:=bY 7 (cP (aJ (fI (aB 3) (fF (aD iq (aB 5) [:1])) (fY)))) (Om)
def Bh:FS:=aE (cA (j2 u6 [] (ak (aB 0) (ak (aB 1) (aC)))) (aH 2 (d5 pS (ak (iz nB [] (ak (aB 0) (ak (aB 1) (aC)))) (aC))))) (aE (cA (j2 u6 [] (ak (aB 0) (ak (aJ (io ya (ak (aB 0) (aC)))) (aC)))) (aH 3 (iz nB [] (ak (aB 0) (ak (aJ (io ya (ak (aB 0) (aC)))) (aC)))))) (aE (cQ 4 (gi (aC))) (aE (qa [5,6] (io (iY 0) (ak (aB 3) (aC))) (On)) (aK (aB 4)))))
def vI:k9->k4->k6:=bL 9 0 2 Bh
def nC:k9->k4->ka:=xQ 9 0 2 Bh
def Bi:FS:=aE (cA (j2 zj [] (ak (aB 0) (ak (aB 1) (aC)))) (aH 2 (iz Be [] (ak (aB 0) (ak (aB 1) (aC)))))) (aE (cA (j2 u6 [] (ak (aB 0) (ak (aB 1) (aC)))) (aH 3 (d5 pS (ak (iz nB [] (ak (aB 0) (ak (aB 1) (aC)))) (aC))))) (aE (aH 4 (d5 mR (ak (aB 0) (aC)))) (aE (aH 5 (d5 z_ (ak (aB 0) (ak (aB 4) (aC))))) (aE (aH 6 (aJ (jf (cP (aB 4)) [] b_ (d5 wy (ak (aB 0) (aC)))))) (aK (aJ (bW (d5 AD (ak (aB 6) (ak (aB 5) (ak (aB 3) (aC))))) (d5 AF (ak (aB 6) (ak (aB 5) (ak (d5 AE (ak (aB 2) (aC))) (aC))))))))))))
def Bj:k9->k4->k6:=bL 7 0 2 Bi
def nD:k9->k4->ka:=xQ 7 0 2 Bi
def bI:FS:=aE (aH 2 (fK (.ins false "House" jm) 0 (iz uf [0] (aC)))) (aE (cA (j2 zi [] (ak (aB 2) (ak (aB 1) (aC)))) (aH 3 (aD aZ (iz Bg [] (ak (aB 2) (ak (aB 1) (aC)))) (d5 zZ (ak (aB 2) (aC)))))) (cA (xm (aB 3) (j2 nC [] (ak (aB 2) (ak (aB 1) (aC))))) (cA (xm (aB 3) (xm (iz vI [] (ak (aB 2) (ak (aB 1) (aC)))) (j2 nD [] (ak (aB 2) (ak (aB 1) (aC)))))) (aK (aW (ak (aB 3) (ak (iz vI [] (ak (aB 2) (ak (aB 1) (aC)))) (ak (iz Bj [] (ak (aB 2) (ak (aB 1) (aC)))) (aC)))))))))
def cU:k9->k4->k6:=bL 4 1 1 bI
def bJ:k9->k4->ka:=xQ 4 1 1 bI
def Bl:FS:=aE (aV (aI (aD bU (aB 3) [:0])) (cA (xK (.ins false "House" jm) 0 (j2 bJ [0] (ak (aB 2) (aC)))) (aK (fK (.ins false "House" jm) 0 (iz cU [0] (ak (aB 2) (aC)))))) (aM)) (aE (aV (aI (aD bU (aB 3) [:1])) (cA (j2 zj [] (ak (aB 1) (ak (aB 2) (aC)))) (aK (iz Be [] (ak (aB 1) (ak (aB 2) (aC)))))) (aM)) (aE (aV (aI (aD bU (aB 3) [:2])) (cA (j2 zi [] (ak (aB 1) (ak (aB 2) (aC)))) (aK (iz Bg [] (ak (aB 1) (ak (aB 2) (aC)))))) (aM)) (aE (aV (aI (aD bU (aB 3) [:3])) (cA (j2 nC [] (ak (aB 1) (ak (aB 2) (aC)))) (aK (iz vI [] (ak (aB 1) (ak (aB 2) (aC)))))) (aM)) (cA (j2 nD [] (ak (aB 1) (ak (aB 2) (aC)))) (aK (iz Bj [] (ak (aB 1) (ak (aB 2) (aC)))))))))
def FF:k9->k4->k6:=bL 4 1 3 Bl
def qT:k9->k4->ka:=xQ 4 1 3 Bl
def Bm:FS:=aE (aH 5 (aW (ak (fC (.str "refused")) (ak (fC (.str "")) (aC))))) (aE (iC (cA (j2 qT [0] (ak (aJ (io pO (ak (aB 1) (aC)))) (ak (aJ (io qj (ak (aB 2) (aC)))) (ak (aB 4) (aC))))) (je (iz FF [0] (ak (aJ (io pO (ak (aB 1) (aC)))) (ak (aJ (io qj (ak (aB 2) (aC)))) (ak (aB 4) (aC))))))) 6 5 iE) (aV (aI (aD jN (aB 5) (aW (ak (fC (.str "refused")) (ak (aB 3) (aC)))))) (aK (fC (.bl false))) (aM)))
def Bo:FS:=aE (bY 4 (io fP (ak [:5] (aC))) (Bm)) (aK (fC (.bl true)))
def yc:k9->k4->k6:=bL 7 1 3 Bo
def Oo:k9->k4->ka:=xQ 7 1 3 Bo
def Bp:FS:=aE (aH 2 (aD cN (aD aZ [:1] (aD cN [:2] (aD bF (aB 1) [:2]))) (aD iq [:10] (aD bF (aD cK (aB 1) [:2]) (aD fO [:10] [:30]))))) (aK (aJ (gi (ak [:0] (ak (gF dN [:1]) (ak (aD iq (aB 0) [:1]) (ak (aD fO [:10] [:12]) (ak (aB 2) (aC)))))))))
def vJ:k4->k6:=aR 3 2 Bp
def FH:FS:=aV (cW (aI (me vq [3,4] (ak (d5 nt (ak (aB 5) (ak (gU 4 0) (aC)))) (aC))))) (aK (fC (.bl false))) (aM)
def FJ:FS:=aV (cW (aI (d5 vz (ak (me rn [3] (ak (aB 10) (aC))) (ak (aW (ak (fC (.str "refused")) (ak (fC (.str "unknown stack")) (aC)))) (aC)))))) (aK (fC (.bl false))) (aM)
def vK:FS:=bY 10 (cP (aJ (gi (ak (aW (ak (fC (.str "put")) (ak (aB 9) (ak (aB 7) (ak (aB 8) (aC)))))) (ak (aW (ak (fC (.str "tell")) (ak (aB 9) (ak (aB 7) (ak (aB 8) (aC)))))) (ak (aW (ak (fC (.str "go")) (ak (aB 9) (aC)))) (aC))))))) (FJ)
def FK:FS:=aV (cW (aI (d5 vz (ak (me rn [3] (ak (aB 10) (aC))) (ak (aW (ak (fC (.str "refused")) (ak (fC (.str "empty stack")) (aC)))) (aC)))))) (aK (fC (.bl false))) (aM)
def nE:FS:=aE (aH 15 (aJ (bW (aJ (bW (aJ (fI (aB 11) (fY) (fF (aB 12)))) (aJ (gi (ak (aD iq (aB 14) [:1]) (aC)))))) (aJ (fI (aB 11) (fF (aB 12)) (fY)))))) (aE (aV (cW (aI (iz yc [3] (ak (aB 6) (ak (aB 15) (ak (fC (.str "empty stack")) (aC))))))) (aK (fC (.bl false))) (aM)) (aE (aH 16 (aD bF (aD cK (aF 1 [:41]) [:2060]) (aD iq (jh 15) [:1]))) (aE (aV (cW (aI (iz yc [3] (ak (aB 6) (ak (aJ (bW (aJ (bW (aJ (fI (aB 15) (fY) (fF (aB 16)))) (aJ (gi (ak (aB 13) (aC)))))) (aJ (fI (aB 15) (fF (aB 16)) (fY))))) (ak (fC (.str "unknown stack")) (aC))))))) (aK (fC (.bl false))) (aM)) (aV (aI (aD bU (d5 dO (ak (aF 6 (aB 14)) (aC))) [:0])) (bY 10 (cP (aJ (gi (ak (aW (ak (fC (.str "tell")) (ak (aD iq (aB 14) [:1]) (ak (aB 7) (ak (aB 8) (aC)))))) (ak (aW (ak (fC (.str "go")) (ak (aD iq (aB 14) [:1]) (aC)))) (aC)))))) (FK)) (aM)))))
def FL:FS:=aE (aH 1 (d5 pH (ak (aB 0) (ak [:44] (aC))))) (aE (aH 2 (d5 uT (ak (aF 1 [:0]) (aC)))) (aE (pu 3 (pw "House" qq (ak (aB 2) (aC)))) (aE (pu 4 (sX uU (ak (aB 2) (aC)))) (aE (bY 5 (cP (aJ (fI (aB 1) (fF [:1]) (fF (aD aZ [:41] (aD bF (aD cK (aF 1 [:0]) [:12]) [:41])))))) (FH)) (aE (aH 6 (gU 4 0)) (aE (aH 7 (aD bF (aF 1 [:41]) [:4])) (aE (aH 8 (aD aZ (aD bF (aD cK (aF 1 [:41]) [:4]) [:103]) [:1])) (aE (bY 9 (cP (d5 vJ (ak (aB 2) (ak (aF 1 [:42]) (aC))))) (vK)) (aE (aH 11 (aJ (io tU (ak (aB 6) (ak (aF 1 [:43]) (aC)))))) (aE (aH 12 (aD bF (aD cK (aF 1 [:42]) [:2]) (aD iq (jh 11) [:1]))) (aE (aH 13 (aD cS (d5 vJ (ak (aB 2) (ak (aF 1 [:42]) (aC)))) (aD bF (aD cK (aF 1 [:41]) [:412]) [:5]))) (aE (bY 14 (io fP (ak (aB 2) (aC))) (nE)) (aE (aV (cW (aI (iz yc [3] (ak (aB 6) (ak (aJ (bW (aB 11) (aJ (gi (ak (aB 13) (aC)))))) (ak (fC (.str "unknown stack")) (aC))))))) (aK (fC (.bl false))) (aM)) (aK (xo (d5 zJ (ak (fK (.ins false "House" jm) 3 (iz qC [3] (aC))) (ak (aB 6) (aC)))) (cZ false (d5 yb (ak (fK (.ins false "House" jm) 3 (iz qB [3] (aC))) (ak (aF 4 [:1]) (aC))))))))))))))))))))
def FM:k4->k6:=aR 17 1 FL
end SQ
namespace SQ
open PySem L2 LB PyProof.Rows
def bZ(i:Nat):Stmt:=PySem.Challenge.pw_rotstacks_k41_whole_unknown_ahead_of_emp.main.body.getD i (.Pass ⟨0,0,0,0⟩)
def iV(j:Nat):Stmt:=match bZ 75 with | .ClassDef _ _ _ b _ _ _ _ _ _ _=>b.getD j (.Pass ⟨0,0,0,0⟩) |_=>.Pass ⟨0,0,0,0⟩
local macro_rules | `(tactic| walk_at "g") => `(tactic| first | exact xa (by kernel_rfl) | exact xX (by kernel_rfl) | exact yE (by kernel_rfl))
local macro_rules | `(tactic| exists $t:term) => `(tactic| as_aux_lemma => exact $t)
local macro_rules | `(tactic| walk_at "b") => `(tactic| exact ⟨by walk_at "g", by assumption⟩)
def ok_all{P:Program}{w:World}{K:kf}{mg:Str->h8}{C:Addr}(T2:bT K mg (bZ 2) "sack_number" ["sack"])(T3:bT K mg (bZ 3) "sack_hours" ["sack"])(T4:bT K mg (bZ 4) "sack_loss" ["sack"])(T5:bT K mg (bZ 5) "sack_share" ["sack"])(T6:bT K mg (bZ 6) "sacks_in_all" ["stacks"])(T7:bT K mg (bZ 7) "loss_in_all" ["stacks"])(T8:bT K mg (bZ 8) "top_sack" ["stacks", "at"])(T9:bT K mg (bZ 9) "with_stack" ["stacks", "at", "stack"])(dt:bT K mg (bZ 10) "without_top" ["stacks", "at"])(dv:bT K mg (bZ 12) "share_gap" ["one", "other"])(dx:bT K mg (bZ 13) "share_sign" ["one", "other"])(d0:bT K mg (bZ 14) "single_block" ["sack"])(d1:bT K mg (bZ 15) "joined_block" ["upper", "lower"])(d2:bT K mg (bZ 16) "block_share" ["block"])(d3:bT K mg (bZ 17) "has_greater_share" ["upper", "lower"])(d4:bT K mg (bZ 18) "stack_blocks" ["stack"])(ea:bT K mg (bZ 35) "turn_share" ["turn"])(eb:bT K mg (bZ 36) "place_of_turn" ["turns", "turn"])(ec:bT K mg (bZ 37) "block_turns" ["stacks"])(ed:bT K mg (bZ 38) "turn_sacks" ["stacks", "turns"])(ee:bT K mg (bZ 39) "told_order" ["stacks"])(b3:bT K mg (bZ 40) "check_known" ["stacks", "at"])(b4:bT K mg (bZ 41) "check_whole" ["stacks", "order"])(b5:bT K mg (bZ 42) "check_order" ["stacks", "order"])(ca:bT K mg (bZ 43) "taken_sacks" ["stacks", "order"])(ef:bT K mg (bZ 44) "sack_places" ["sacks"])(ei:bT K mg (bZ 46) "order_plan" ["stacks", "order"])(cc:bT K mg (bZ 47) "order_cost" ["stacks", "order"])(ej:bT K mg (bZ 48) "least_cost" ["stacks"])(el:bT K mg (bZ 49) "turned_pairs" ["stacks", "order"])(en:bT K mg (bZ 51) "hours_gone" ["stretches"])(eo:bT K mg (bZ 53) "block_debts" ["share", "sacks"])(ep:bT K mg (bZ 54) "turned_hours" ["first", "second", "places"])(er:bT K mg (bZ 55) "turned_reasons" ["shares", "blocks", "places"])(es:bT K mg (bZ 56) "plan_spans" ["plan"])(et:bT K mg (bZ 57) "parted_reasons" ["shares", "blocks", "spans"])(eu:bT K mg (bZ 58) "why_more" ["stacks", "order"])(ev:bT K mg (bZ 65) "check_count" ["many"])(ew:bT K mg (bZ 66) "check_hours" ["hours"])(ex:bT K mg (bZ 67) "check_loss" ["loss"])(ey:bT K mg (bZ 68) "check_room" ["stacks"])(ez:bT K mg (bZ 69) "check_lies" ["stacks", "at"])(e0:bT K mg (bZ 70) "check_place" ["stack", "place"])(e1:bT K mg (bZ 71) "check_waits" ["stacks"])(e2:bT K mg (bZ 72) "check_deeds" ["deeds"])(e3:bT K mg (bZ 73) "next_number" ["deeds"])(e4:bT K mg (bZ 74) "told_anew" ["sack", "loss"])(al:hI K C (iV 0) "__init__" "House.__init__" ["self", "many"])(an:hI K C (iV 1) "piles" "House.piles" ["self"])(ap:hI K C (iV 2) "spans" "House.spans" ["self"])(ar:hI K C (iV 3) "keep" "House.keep" ["self", "deed", "piles", "spans"])(a0:hI K C (iV 4) "put" "House.put" ["self", "at", "hours", "loss"])(a1:hI K C (iV 5) "tell" "House.tell" ["self", "at", "place", "loss"])(a2:hI K C (iV 6) "go" "House.go" ["self", "at"])(a3:hI K C (iV 8) "back" "House.back" ["self"])(a4:hI K C (iV 9) "deeds" "House.deeds" ["self"])(a5:hI K C (iV 10) "stacks" "House.stacks" ["self"])(a6:hI K C (iV 11) "hour" "House.hour" ["self"])(a7:hI K C (iV 7) "dry" "House.dry" ["self"])(a8:hI K C (iV 16) "against" "House.against" ["self", "order"])(e5:bT K mg (bZ 77) "_law_whole" ["_law_found"])(e6:bT K mg (bZ 78) "_law_at" ["_law_script", "_law_k"])(e8:bT K mg (bZ 79) "_law_draws" ["_law_script", "_law_many_here"])(e9:bT K mg (bZ 80) "_law_other" ["_law_stacks", "_law_figure"])(fa:bT K mg (bZ 81) "_law_best" ["_law_sacks"])(fc:bT K mg (bZ 82) "_law_turns" ["_law_stacks"])(fe:bT K mg (bZ 83) "_law_same_row" ["_law_found", "_law_due"])(fg:bT K mg (bZ 84) "_law_same_rows" ["_law_found", "_law_due"])(fh:bT K mg (bZ 85) "_law_same_stacks" ["_law_found", "_law_due"])(fi:bT K mg (bZ 86) "_law_copy" ["_law_stacks"])(fk:bT K mg (bZ 87) "_law_kind" ["_law_error"])(fl:bT K mg (bZ 88) "_law_deed" ["_law_cell", "_law_piles"])(fp:bT K mg (bZ 89) "_law_refusal" ["_law_piles", "_law_kept", "_law_deed_here"])(fr:bT K mg (bZ 90) "_law_ask" ["_law_house", "_law_deed_here"])(fs:bT K mg (bZ 91) "_law_call" ["_law_house", "_law_deed_here"])(fv:bT K mg (bZ 92) "_law_step" ["_law_piles", "_law_deed_here", "_law_number"])(fw:bT K mg (bZ 93) "_law_rate" ["_law_piles"])(f0:bT K mg (bZ 94) "_law_same_answer" ["_law_found", "_law_due"])(f1:bT K mg (bZ 95) "_law_many" ["_law_header"])(f2:bT K mg (bZ 96) "_law_rates" ["_law_dried"])(f3:bT K mg (bZ 97) "_law_do" ["_law_house", "_law_state", "_law_deed_here"])(f4:bT K mg (bZ 98) "_law_new" ["_law_many_here"])(f5:bT K mg (bZ 99) "_law_doors" ["_law_house", "_law_piles", "_law_turns_here", "_law_door"])(cd:bT K mg (bZ 100) "_law_all_doors" ["_law_house", "_law_piles", "_law_turns_here", "_law_due"])(ce:bT K mg (bZ 101) "_law_unknown" ["_law_many_here", "_law_cell"])(E:Cl K "House" C)(cs:iA K C)(mC:mg "House" = ↑(.ref C))(kC:PySem.W.makesIn K C=true)(pC:PySem.W.keepIn K (.ref C)=true)(a9:PySem.W.findIn K (.ref C) "kept" = ↑none)(Q:PySem.W.findIn K (.ref C) "states" = ↑none)(x:iP K mg "BadCount")(z:iP K mg "BadHours")(F:iP K mg "BadLoss")(q:iP K mg "DeedsFull")(Z:iP K mg "EmptyStack")(s:iP K mg "HouseFull")(m:iP K mg "NothingDone")(g:iP K mg "NothingWaits")(o:iP K mg "ShortOrder")(j:iP K mg "UnknownPlace")(k:iP K mg "UnknownStack")(b:∃t,mg "MOST_DEEDS" = ↑(.int 60 t))(c:∃t,mg "MOST_HOURS" = ↑(.int 60 t))(d:∃t,mg "MOST_LOSS" = ↑(.int 100 t))(V:∃t,mg "MOST_STACKS" = ↑(.int 5 t))(U:∃t,mg "MOST_WAITING" = ↑(.int 14 t))(G:eM K mg)(ab:mg "ValueError" = none)(dp:mg "bool" = none)(dr:mg "dict" = none)(ba:mg "enumerate" = none)(ga:mg "int" = none)(ag:mg "isinstance" = none)(gb:mg "len" = none)(ds:mg "list" = none)(gd:mg "max" = none)(ch:mg "range" = none)(gj:mg "str" = none)(gr:mg "sum" = none)(ck:mg "tuple" = none)(gs:mg "zip" = none):∀base f fd,hB K "law" "law" (bZ 102) f fd->cJ P w K mg base bV 11 f fd ["_law_script"] (cM K FM):=by
 intro base;have D:oW K "House" "kept":=⟨C,cs,a9,E⟩;have S:oW K "House" "states":=⟨C,cs,Q,E⟩;have R:bN P w K mg base bV "sack_number" 1 (cM K oq):=by exists jv T2 ["sack"] λr a t=>dz (fz (e7 cg a))
 have c3:bN P w K mg base bV "sack_hours" 1 (cM K rq):=by exists jv T3 ["sack"] λr a t=>dz (fz (e7 cg a))
 have c4:bN P w K mg base bV "sack_loss" 1 (cM K vv):=by exists jv T4 ["sack"] λr a t=>dz (fz (e7 cg a))
 have c5:bN P w K mg base bV "sack_share" 2 (cM K pR):=by exists jv T5 ["sack"] λr a t=>dz (fz (j6 (az (gk c3 r (az (bf a) b7)) (az (gk c4 r (az (bf a) b7)) b7))))
 have c6:bN P w K mg base bV "sacks_in_all" 1 (cM K tW):=by exists jv T6 ["stacks"] λr a t=>dz (fz (yq (az (gf (uq a (kg (bf a)) (λ_ _ _ _ _ _ _ a=>lc a))) b7)))
 have c7:bN P w K mg base bV "loss_in_all" 2 (cM K Ac):=by exists jv T7 ["stacks", "total", "stack"] λr a t=>dh (f6 t cg) (dh (mr (kg (bf a)) t.pg (dz (wu t (yq (az (gf (uq a (kg (bf a)) (λ_ _ _ _ _ _ _ a=>gk c4 r (az (bf a) b7)))) b7))))) (dz (fz (bf a))))
 have c8:bN P w K mg base bV "top_sack" 1 (cM K tY):=by exists jv T8 ["stacks", "at"] λr a t=>dz (fz (lw (e7 (kz (bf a) cg) a) cg))
 have c9:bN P w K mg base bV "with_stack" 1 (cM K mT):=by exists jv T9 ["stacks", "at", "stack"] λr a t=>dz (fz (gf (ng (gf (ng (gf (qr (bf a) tz (qc (kz (bf a) cg)))) (gf (jc (az (bf a) b7))))) (gf (qr (bf a) (qc (bf a)) tz)))))
 have cl:bN P w K mg base bV "without_top" 2 (cM K tZ):=by exists jv dt ["stacks", "at"] λr a t=>dz (fz (gk c9 r (az (bf a) (az (bf a) (az (gf (qr (e7 (kz (bf a) cg) a) (qc cg) tz)) b7)))))
 have bb:bN P w K mg base bV "share_gap" 1 (cM K x6):=by exists jv dv ["one", "other"] λr a t=>dz (fz (kz (qk (e7 cg a) (e7 cg a)) (qk (e7 cg a) (e7 cg a))))
 have cm:bN P w K mg base bV "share_sign" 2 (cM K wz):=by exists jv dx ["one", "other", "gap"] λr a t=>dh (f6 t (gk bb r (az (bf a) (az (bf a) b7)))) (dh (ii (n8 (bf a) cg) (dz (fz cg)) im) (dh (ii (qu (bf a) cg) (dz (fz (ul cg))) im) (dz (fz cg))))
 have gu:bN P w K mg base bV "single_block" 2 (cM K tH):=by exists jv d0 ["sack"] λr a t=>dz (fz (j6 (az cg (az (gk c3 r (az (bf a) b7)) (az (gk c4 r (az (bf a) b7)) b7)))))
 have g0:bN P w K mg base bV "joined_block" 1 (cM K tI):=by exists jv d1 ["upper", "lower"] λr a t=>dz (fz (j6 (az (lm (e7 cg a) (e7 cg a)) (az (lm (e7 cg a) (e7 cg a)) (az (lm (e7 cg a) (e7 cg a)) b7)))))
 have cn:bN P w K mg base bV "block_share" 1 (cM K pI):=by exists jv d2 ["block"] λr a t=>dz (fz (j6 (az (e7 cg a) (az (e7 cg a) b7))))
 have g1:bN P w K mg base bV "has_greater_share" 3 (cM K xh):=by exists jv d3 ["upper", "lower"] λr a t=>dz (fz (IB (gk cm r (az (gk cn r (az (bf a) b7)) (az (gk cn r (az (bf a) b7)) b7))) cg))
 have g2:bN P w K mg base bV "stack_blocks" 4 (cM K zD):=by exists jv d4 ["stack", "blocks", "sack", "block"] λr a t=>dh (oa (t.psF (jc b7))) (dh (mr (kg (bf a)) t.pg (dh (f6 t (gk gu r (az (bf a) b7))) (dh (xS (cX (uk (n8 (lc a) cg) (ur (qw (pf (gk g1 r (az (e7 (ul cg) a) (az (bf a) b7)))))))) (dz (f6 t (gk g0 r (az (Jc a) (az (bf a) b7)))))) (dz (j4 (uc (bf a) a)))))) (dz (fz (bf a))))
 have b1:bN P w K mg base bV "turn_share" 1 (cM K wy):=by exists jv ea ["turn"] λr a t=>dz (fz (j6 (az (e7 cg a) (az (e7 cg a) b7))))
 have g3:bN P w K mg base bV "place_of_turn" 3 (cM K zF):=by exists jv eb ["turns", "turn", "place"] λr a t=>dh (f6 t cg) (dh (xS (cX (uk (qu (bf a) (lc a)) (ur (mB (gk cm r (az (gk b1 r (az (e7 (bf a) a) b7)) (az (gk b1 r (az (bf a) b7)) b7))) cg)))) (dz (wu t cg))) (dz (fz (bf a))))
 have co:bN P w K mg base bV "block_turns" 5 (cM K mR):=by exists jv ec ["stacks", "turns", "at", "stack", "many", "hours", "loss", "turn"] λr a t=>dh (oa (t.psF (jc b7))) (dh (y9 (JA (az (bf a) b7)) (lb t (lb t tu)) (dz (si (kg (gk g2 r (az (bf a) b7))) (lb t (lb t (lb t tu))) (dh (f6 t (j6 (az (bf a) (az (bf a) (az (bf a) (az (bf a) b7)))))) (dz (j4 (Jr (JP g3 r (JN (JM (az (bf a) b7)) a)) (bf a) a))))))) (dz (fz (bf a))))
 have g4:bN P w K mg base bV "turn_sacks" 1 (cM K z_):=by exists jv ed ["stacks", "turns", "taken", "sacks", "at", "many", "hours", "loss", "begin"] λr a t=>dh (oa (ze a t (kg (bf a)) (λ_ _ _ _ _ _ _ a=>cg))) (dh (oa (t.psF (jc b7))) (dh (si (kg (bf a)) (lb t (lb t (lb t (lb t tu)))) (dh (f6 t (e7 (kz (bf a) cg) a)) (dh (xT (kz (bf a) cg) (lm (bf a) (bf a)) a) (dz (j4 (uc (gf (qr (e7 (kz (bf a) cg) a) (qc (bf a)) (qc (lm (bf a) (bf a))))) a)))))) (dz (fz (bf a)))))
 have bd:bN P w K mg base bV "told_order" 6 (kP K ya):=by exists yW ee ["stacks", "order", "at", "many", "hours", "loss"] λr a t=>dh (oa (t.psF (jc b7))) (dh (si (kg (gk co r (az (bf a) b7))) (lb t (lb t (lb t (lb t tu)))) (dz (j4 (JD (CU (jc (az (bf a) b7)) (bf a)) a)))) (dz (CL a)))
 have A:bN P w K mg base (dG P w) "check_known" 1 (eO K x9 vy):=by exists pj b3 ["stacks", "at"] λr a t=>dz (ii (cX (qt (qu (bf a) cg) (qx (n8 (bf a) (lc a))))) (dz (ub k pa)) im)
 have g5:bN P w K mg base bV "check_known" 1 (cM K zO):=by exists jv b3 ["stacks", "at"] λr a t=>dz (ii (cX (qt (qu (bf a) cg) (qx (n8 (bf a) (lc a))))) (dz xP) im)
 have cp:bN P w K mg base (dG P w) "check_whole" 1 (eO K qR zl):=by exists pj b4 ["stacks", "order", "left", "at"] λr a t=>dh (oa (ze a t (kg (bf a)) (λ_ _ _ _ _ _ _ a=>lc a))) (dh (mr (kg (bf a)) t.pg (dh (ii (km (e7 (kz (bf a) cg) a) cg) (dz (ub Z (yx (qe vn (qe (yz (bf a)) (qe vn yy)))))) im) (dz (Dl (kz (bf a) cg) cg a)))) (dz (ii (n8 (yD a) cg) (dz (ub o pa)) im)))
 have g6:bN P w K mg base bV "check_whole" 1 (cM K zQ):=by exists jv b4 ["stacks", "order", "left", "at"] λr a t=>dh (oa (ze a t (kg (bf a)) (λ_ _ _ _ _ _ _ a=>lc a))) (dh (mr (kg (bf a)) t.pg (dh (ii (km (e7 (kz (bf a) cg) a) cg) (dz xP) im) (dz (Dl (kz (bf a) cg) cg a)))) (dz (ii (n8 (yD a) cg) (dz xP) im)))
 have cq:bN P w K mg base (dG P w) "check_order" 2 (eO K vH qS):=by exists pj b5 ["stacks", "order", "at"] λr a t=>dh (mr (kg (bf a)) t.pg (dz (ko (j4 (ky A r (ij (az (bf a) (az (bf a) b7))))) (oo (ly A r (ij (az (bf a) (az (bf a) b7)))))))) (dz (ko (j4 (ky cp r (ij (az (bf a) (az (bf a) b7))))) (oo (ly cp r (ij (az (bf a) (az (bf a) b7)))))))
 have g7:bN P w K mg base bV "check_order" 2 (cM K zS):=by exists jv b5 ["stacks", "order", "at"] λr a t=>dh (mr (kg (bf a)) t.pg (dz (j4 (gk g5 r (az (bf a) (az (bf a) b7)))))) (dz (j4 (gk g6 r (az (bf a) (az (bf a) b7)))))
 have p:bN P w K mg base (dG P w) "taken_sacks" 3 (eO K nB u6):=by exists pj ca ["stacks", "order", "taken", "sacks", "at"] λr a t=>dh (ko (j4 (ky cq r (ij (az (bf a) (az (bf a) b7))))) (oo (ly cq r (ij (az (bf a) (az (bf a) b7)))))) (dh (oa (ze a t (kg (bf a)) (λ_ _ _ _ _ _ _ a=>cg))) (dh (oa (t.psF (jc b7))) (dh (mr (kg (bf a)) t.pg (dh (j4 (uc (lw (e7 (kz (bf a) cg) a) (e7 (kz (bf a) cg) a)) a)) (dz (Dk (kz (bf a) cg) cg a)))) (dz (fz (bf a))))))
 have g8:bN P w K mg base bV "taken_sacks" 3 (cM K zr):=by exists jv ca ["stacks", "order", "taken", "sacks", "at"] λr a t=>dh (j4 (gk g7 r (az (bf a) (az (bf a) b7)))) (dh (oa (ze a t (kg (bf a)) (λ_ _ _ _ _ _ _ a=>cg))) (dh (oa (t.psF (jc b7))) (dh (mr (kg (bf a)) t.pg (dh (j4 (uc (lw (e7 (kz (bf a) cg) a) (e7 (kz (bf a) cg) a)) a)) (dz (Dk (kz (bf a) cg) cg a)))) (dz (fz (bf a))))))
 have be:bN P w K mg base bV "sack_places" 2 (cM K pS):=by exists jv ef ["sacks"] λr a t=>dz (fz (D7 (az (gf (Ds ["place", "sack"] a (sr (az (bf a) b7)) (λ_ _ _ _ _ t=>lb t (lb t tu)) (λ_ _ _ _ _ _ _ a=>j6 (az (gk R r (az (bf a) b7)) (az (bf a) b7))))) b7)))
 have bk:bN P w K mg base (dG P w) "order_plan" 4 (eO K Be zj):=by exists pj ei ["stacks", "order", "plan", "hour", "at", "sack", "dry"] λr a t=>dh (oa (t.psF (jc b7))) (dh (f6 t cg) (dh (ko (y9 (Dg (az (bf a) (az (ky p r (ij (az (bf a) (az (bf a) b7)))) b7))) (lb t (lb t tu)) (dh (f6 t (lm (bf a) (gk c3 r (az (bf a) b7)))) (dh (j4 (uc (j6 (az (gk R r (az (bf a) b7)) (az (bf a) (az (bf a) (az (bf a) b7))))) a)) (dz (f6 t (bf a)))))) (Ek (Lf (sL (bf a) (pB (ly p r (ij (az (bf a) (az (bf a) b7))))))))) (dz (fz (bf a)))))
 have bl:bN P w K mg base (dG P w) "order_cost" 4 (eO K Bg zi):=by exists pj cc ["stacks", "order", "cost", "hour", "sack"] λr a t=>dh (f6 t cg) (dh (f6 t cg) (dh (ko (mr (kg (ky p r (ij (az (bf a) (az (bf a) b7))))) t.pg (dh (wu t (gk c3 r (az (bf a) b7))) (dz (wu t (qk (gk c4 r (az (bf a) b7)) (bf a)))))) (Ek (Le (ly p r (ij (az (bf a) (az (bf a) b7))))))) (dz (fz (bf a)))))
 have g9:bN P w K mg base bV "order_cost" 4 (cM K zY):=by exists jv cc ["stacks", "order", "cost", "hour", "sack"] λr a t=>dh (f6 t cg) (dh (f6 t cg) (dh (mr (kg (gk g8 r (az (bf a) (az (bf a) b7)))) t.pg (dh (wu t (gk c3 r (az (bf a) b7))) (dz (wu t (qk (gk c4 r (az (bf a) b7)) (bf a)))))) (dz (fz (bf a)))))
 have ha:bN P w K mg base bV "least_cost" 7 (cM K zZ):=by exists jv ej ["stacks"] λr a t=>dz (fz (gk g9 r (az (bf a) (az (gf (za bd r (az (bf a) b7))) b7))))
 have X:bN P w K mg base (dG P w) "turned_pairs" 7 (eO K vI nC):=by exists pj el ["stacks", "order", "places", "told", "pairs", "place", "ahead", "other", "amount"] λr a t=>dh (ko (f6 t (gk be r (az (ky p r (ij (az (bf a) (az (bf a) b7)))) b7))) (oZ (i:=2) t (Ej be r (pB (ly p r (ij (az (bf a) (az (bf a) b7)))))))) (dh (ko (f6 t (ky p r (ij (az (bf a) (az (gf (za bd r (az (bf a) b7))) b7))))) (oZ (i:=3) t (ly p r (ij (az (bf a) (az (gf (za bd r (az (bf a) b7))) b7)))))) (dh (oa (t.psF (jc b7))) (dh (y9 (sr (az (bf a) b7)) (lb t (lb t tu)) (dz (mr (kg (gf (qr (bf a) (qc (lm (bf a) cg)) tz))) t.pg (dz (ii (qu (mI r (bf a) (gk R r (az (bf a) b7))) (mI r (bf a) (gk R r (az (bf a) b7)))) (dh (f6 t (gk bb r (az (gk c5 r (az (bf a) b7)) (az (gk c5 r (az (bf a) b7)) b7)))) (dz (j4 (uc (j6 (az (gk R r (az (bf a) b7)) (az (gk R r (az (bf a) b7)) (az (bf a) b7)))) a)))) im))))) (dz (fz (bf a))))))
 have hb:bN P w K mg base bV "hours_gone" 1 (cM K uF):=by exists jv en ["stretches"] λr a t=>dh (ii (km (lc a) cg) (dz (fz cg)) im) (dz (fz (lw (e7 (ul cg) a) cg)))
 have hc:bN P w K mg base bV "block_debts" 2 (cM K Eu):=by exists jv eo ["share", "sacks", "debts", "hours", "loss", "sack"] λr a t=>dh (oa (t.psF (jc b7))) (dh (f6 t cg) (dh (f6 t cg) (dh (mr (kg (gf (qr (bf a) tz (qc (ul cg))))) t.pg (dh (wu t (gk c3 r (az (bf a) b7))) (dh (wu t (gk c4 r (az (bf a) b7))) (dz (j4 (uc (gk bb r (az (bf a) (az (j6 (az (bf a) (az (bf a) b7))) b7))) a)))))) (dz (fz (bf a))))))
 have hd:bN P w K mg base bV "turned_hours" 2 (cM K Fc):=by exists jv ep ["first", "second", "places", "total", "one", "two"] λr a t=>dh (f6 t cg) (dh (mr (kg (bf a)) t.pg (dz (mr (kg (bf a)) t.pg (dz (ii (qu (mI r (bf a) (gk R r (az (bf a) b7))) (mI r (bf a) (gk R r (az (bf a) b7)))) (dz (wu t (qk (gk c3 r (az (bf a) b7)) (gk c3 r (az (bf a) b7))))) im))))) (dz (fz (bf a))))
 have he:bN P w K mg base bV "turned_reasons" 3 (cM K AD):=by exists jv er ["shares", "blocks", "places", "reasons", "turn", "first", "later", "second", "over", "under"] λr a t=>dh (oa (t.psF (jc b7))) (dh (y9 (sr (az (bf a) b7)) (lb t (lb t tu)) (dz (mr (IW (az (lm (bf a) cg) (az (lc a) b7))) t.pg (dh (f6 t (e7 (bf a) a)) (dh (f6 t (qk (gk bb r (az (e7 (bf a) a) (az (e7 (bf a) a) b7))) (gk hd r (az (bf a) (az (bf a) (az (bf a) b7)))))) (dz (ii (n8 (bf a) cg) (dh (f6 t (qk (lw (e7 (bf a) a) cg) (lw (e7 (bf a) a) cg))) (dz (j4 (uc (j6 (az gy (az (gk R r (az (e7 cg a) b7)) (az (gk R r (az (e7 cg a) b7)) (az (bf a) (az (bf a) b7)))))) a)))) im))))))) (dz (fz (bf a))))
 have hf:bN P w K mg base bV "plan_spans" 1 (cM K AE):=by exists jv es ["plan"] λr a t=>dz (fz (D7 (az (gf (Ds ["number", "at", "begun", "dry"] a (JR (kg (bf a))) (λ_ _ _ _ _ t=>lb t (lb t (lb t (lb t tu)))) (λ_ _ _ _ _ _ _ a=>j6 (az (bf a) (az (j6 (az (bf a) (az (bf a) b7))) b7))))) b7)))
 have hg:bN P w K mg base bV "parted_reasons" 3 (cM K AF):=by exists jv et ["shares", "blocks", "spans", "reasons", "share", "sacks", "place", "debt", "one", "two", "over"] λr a t=>dh (oa (t.psF (jc b7))) (dh (y9 (Dg (az (bf a) (az (bf a) b7))) (lb t (lb t tu)) (dz (y9 (sr (az (gk hc r (az (bf a) (az (bf a) b7))) b7)) (lb t (lb t tu)) (dh (f6 t (gk R r (az (e7 (bf a) a) b7))) (dh (f6 t (gk R r (az (e7 (lm (bf a) cg) a) b7))) (dh (f6 t (qk (bf a) (kz (lw (mI r (bf a) (bf a)) cg) (lw (mI r (bf a) (bf a)) cg)))) (dz (ii (n8 (bf a) cg) (dz (j4 (uc (j6 (az gy (az (bf a) (az (bf a) (az (bf a) (az (e7 cg a) b7)))))) a))) im)))))))) (dz (fz (bf a))))
 have bm:bN P w K mg base (dG P w) "why_more" 6 (eO K Bj nD):=by exists pj eu ["stacks", "order", "plan", "places", "turns", "blocks", "shares"] λr a t=>dh (ko (f6 t (ky bk r (ij (az (bf a) (az (bf a) b7))))) (oZ (i:=2) t (ly bk r (ij (az (bf a) (az (bf a) b7)))))) (dh (ko (f6 t (gk be r (az (ky p r (ij (az (bf a) (az (bf a) b7)))) b7))) (oZ (i:=3) t (Ej be r (pB (ly p r (ij (az (bf a) (az (bf a) b7)))))))) (dh (f6 t (gk co r (az (bf a) b7))) (dh (f6 t (gk g4 r (az (bf a) (az (bf a) b7)))) (dh (r_ (ze a t (kg (bf a)) (λ_ _ _ _ _ _ _ a=>gk b1 r (az (bf a) b7)))) (dz (fz (gf (ng (gk he r (az (bf a) (az (bf a) (az (bf a) b7)))) (gk hg r (az (bf a) (az (bf a) (az (gk hf r (az (bf a) b7)) b7))))))))))))
 have ct:bN P w K mg base (dG P w) "check_count" 1 (eO K uG uH):=by exists pj ev ["many"] λr a t=>dz (ii (cX (qt (qu (bf a) cg) (qx (n8 (bf a) (vo V))))) (dz (ub x (yx (qe vn (qe (yz (vo V)) (qe vn yy)))))) im)
 have cu:bN P w K mg base (dG P w) "check_hours" 1 (eO K uI mZ):=by exists pj ew ["hours"] λr a t=>dz (ii (cX (qt (qu (bf a) cg) (qx (n8 (bf a) (vo c))))) (dz (ub z (yx (qe vn (qe (yz (vo c)) (qe vn yy)))))) im)
 have bo:bN P w K mg base (dG P w) "check_loss" 1 (eO K p_ zp):=by exists pj ex ["loss"] λr a t=>dz (ii (cX (qt (qu (bf a) cg) (qx (n8 (bf a) (vo d))))) (dz (ub F (yx (qe vn (qe (yz (vo d)) yy))))) im)
 have cv:bN P w K mg base (dG P w) "check_room" 2 (eO K uK m_):=by exists pj ey ["stacks"] λr a t=>dz (ii (mB (gk c6 r (az (bf a) b7)) (vo U)) (dz (ub s (yx (qe (yz (vo U)) (qe vn yy))))) im)
 have bp:bN P w K mg base (dG P w) "check_lies" 1 (eO K qF zo):=by exists pj ez ["stacks", "at"] λr a t=>dz (ii (km (xq (az (e7 (kz (bf a) cg) a) b7)) cg) (dz (ub Z (yx (qe vn (qe (yz (bf a)) yy))))) im)
 have c0:bN P w K mg base (dG P w) "check_place" 1 (eO K uW n0):=by exists pj e0 ["stack", "place"] λr a t=>dz (ii (cX (qt (qu (bf a) cg) (qx (n8 (bf a) (lc a))))) (dz (ub j pa)) im)
 have c1:bN P w K mg base (dG P w) "check_waits" 2 (eO K uQ nn):=by exists pj e1 ["stacks"] λr a t=>dz (ii (km (gk c6 r (az (bf a) b7)) cg) (dz (ub g pa)) im)
 have B:bN P w K mg base (dG P w) "check_deeds" 1 (eO K zm xg):=by exists pj e2 ["deeds"] λr a t=>dz (ii (mB (lc a) (vo b)) (dz (ub q (yx (qe (yz (vo b)) (qe vn yy))))) im)
 have hh:bN P w K mg base bV "next_number" 1 (cM K uM):=by exists jv e3 ["deeds"] λr a t=>dz (fz (lm cg (xq (az (gf (CJ a (kg (bf a)) (λ_ _ _ _ _ _ _ a=>km (e7 cg a) gy) (λ_ _ _ _ _ _ _ a=>bf a))) b7))))
 have hi:bN P w K mg base bV "told_anew" 2 (cM K AI):=by exists jv e4 ["sack", "loss"] λr a t=>dz (fz (j6 (az (gk R r (az (bf a) b7)) (az (gk c3 r (az (bf a) b7)) (az (bf a) b7)))))
 have br:lG P w K mg base "House" 2 (gB K qq A3):=by exists KD E mC kC pC al ["self", "many"] λr a t=>dh (ko (j4 (ky ct r (ij (az (bf a) b7)))) (oo (ly ct r (ij (az (bf a) b7))))) (dh (Ea D a (jc b7)) (dz (Ea S a (jc (az (j6 (az (gf (uq a (ud (az (bf a) b7)) (λ_ _ _ _ _ _ _ a=>gf (jc b7)))) (az (gf (jc b7)) b7))) b7)))))
 have Y:dP P w K mg base "House" "piles" 1 (eO K uf MF):=by exists zz E cs an ["self"] λr a t=>dz (fz (lw (DT (xy S a) (DS DR)) cg))
 have e:dP P w K mg base "House" "spans" 1 (eO K vw MG):=by exists zz E cs ap ["self"] λr a t=>dz (fz (lw (DT (xy S a) (DS DR)) cg))
 have l:dP P w K mg base "House" "keep" 1 (gB K u5 MH):=by exists zy E cs ar ["self", "deed", "piles", "spans"] λr a t=>dh (j4 (sT (xy D a) (bf a))) (dz (j4 (sT (xy S a) (j6 (az (bf a) (az (bf a) b7))))))
 have H:dP P w K mg base "House" "put" 3 (gB K qA nb):=by exists zy E cs a0 ["self", "at", "hours", "loss", "piles", "number", "stack"] λr a t=>dh (f6 t (r8 Y r a)) (dh (ko (j4 (ky A r (ij (az (bf a) (az (bf a) b7))))) (oo (ly A r (ij (az (bf a) (az (bf a) b7)))))) (dh (ko (j4 (ky cu r (ij (az (bf a) b7)))) (oo (ly cu r (ij (az (bf a) b7))))) (dh (ko (j4 (ky bo r (ij (az (bf a) b7)))) (oo (ly bo r (ij (az (bf a) b7))))) (dh (ko (j4 (ky cv r (ij (az (bf a) b7)))) (oo (ly cv r (ij (az (bf a) b7))))) (dh (ko (j4 (wq (λ_ _=>ky B r (ij (az (ww D a) b7))))) (oo (sZ (λ_ _=>ly B r (ij (az (ww D a) b7)))))) (dh (f6 t (wq (λ_ _=>gk hh r (az (ww D a) b7)))) (dh (f6 t (gf (ng (gf (jc (az (j6 (az (bf a) (az (bf a) (az (bf a) b7)))) b7))) (e7 (kz (bf a) cg) a)))) (dh (j4 (zg l r (az (j6 (az gy (az (bf a) (az (bf a) (az (bf a) b7))))) (az (gk c9 r (az (bf a) (az (bf a) (az (bf a) b7)))) (az (r8 e r a) b7))) a)) (dz (fz (bf a)))))))))))
 have J:dP P w K mg base "House" "tell" 3 (gB K qI n2):=by exists zy E cs a1 ["self", "at", "place", "loss", "piles", "stack", "sack", "changed"] λr a t=>dh (f6 t (r8 Y r a)) (dh (ko (j4 (ky A r (ij (az (bf a) (az (bf a) b7))))) (oo (ly A r (ij (az (bf a) (az (bf a) b7)))))) (dh (ko (j4 (ky bp r (ij (az (bf a) (az (bf a) b7))))) (oo (ly bp r (ij (az (bf a) (az (bf a) b7)))))) (dh (f6 t (e7 (kz (bf a) cg) a)) (dh (ko (j4 (ky c0 r (ij (az (bf a) (az (bf a) b7))))) (oo (ly c0 r (ij (az (bf a) (az (bf a) b7)))))) (dh (ko (j4 (ky bo r (ij (az (bf a) b7)))) (oo (ly bo r (ij (az (bf a) b7))))) (dh (ko (j4 (wq (λ_ _=>ky B r (ij (az (ww D a) b7))))) (oo (sZ (λ_ _=>ly B r (ij (az (ww D a) b7)))))) (dh (f6 t (e7 (kz (bf a) cg) a)) (dh (f6 t (gf (ng (gf (ng (gf (qr (bf a) tz (qc (kz (bf a) cg)))) (gf (jc (az (gk hi r (az (bf a) (az (bf a) b7))) b7))))) (gf (qr (bf a) (qc (bf a)) tz))))) (dh (j4 (zg l r (az (j6 (az gy (az (bf a) (az (bf a) (az (bf a) b7))))) (az (gk c9 r (az (bf a) (az (bf a) (az (bf a) b7)))) (az (r8 e r a) b7))) a)) (dz (fz (gk c4 r (az (bf a) b7)))))))))))))
 have L:dP P w K mg base "House" "go" 3 (gB K qG nw):=by exists zy E cs a2 ["self", "at", "piles"] λr a t=>dh (f6 t (r8 Y r a)) (dh (ko (j4 (ky A r (ij (az (bf a) (az (bf a) b7))))) (oo (ly A r (ij (az (bf a) (az (bf a) b7)))))) (dh (ko (j4 (ky bp r (ij (az (bf a) (az (bf a) b7))))) (oo (ly bp r (ij (az (bf a) (az (bf a) b7)))))) (dh (ko (j4 (wq (λ_ _=>ky B r (ij (az (ww D a) b7))))) (oo (sZ (λ_ _=>ly B r (ij (az (ww D a) b7)))))) (dh (j4 (zg l r (az (j6 (az gy (az (bf a) b7))) (az (gk cl r (az (bf a) (az (bf a) b7))) (az (r8 e r a) b7))) a)) (dz (fz (gk c8 r (az (bf a) (az (bf a) b7)))))))))
 have M:dP P w K mg base "House" "back" 1 (gB K qM n3):=by exists zy E cs a3 ["self"] λr a t=>dh (ii (km (DQ (xy D a)) cg) (dz (ub m pa)) im) (dh (j4 (sS (xy S a))) (dz (fz (sS (xy D a)))))
 have bs:dP P w K mg base "House" "deeds" 1 (eO K qB MI):=by exists zz E cs a4 ["self"] λr a t=>dz (fz (gf (Kv (xy D a))))
 have bt:dP P w K mg base "House" "stacks" 2 (eO K qC MJ):=by exists zz E cs a5 ["self"] λr a t=>dz (fz (gf (uq a (kg (r8 Y r a)) (λ_ _ _ _ _ _ _ a=>gf (mE (az (bf a) b7))))))
 have bv:dP P w K mg base "House" "hour" 2 (eO K uO MK):=by exists zz E cs a6 ["self"] λr a t=>dz (fz (gk hb r (az (r8 e r a) b7)))
 have N:dP P w K mg base "House" "dry" 7 (gB K qD nq):=by exists zy E cs a7 ["self", "piles", "at", "sack", "begun", "stretch"] λr a t=>dh (f6 t (r8 Y r a)) (dh (ko (j4 (ky c1 r (ij (az (bf a) b7)))) (oo (ly c1 r (ij (az (bf a) b7))))) (dh (ko (j4 (wq (λ_ _=>ky B r (ij (az (ww D a) b7))))) (oo (sZ (λ_ _=>ly B r (ij (az (ww D a) b7)))))) (dh (f6 t (lw (gf (za bd r (az (bf a) b7))) cg)) (dh (f6 t (gk c8 r (az (bf a) (az (bf a) b7)))) (dh (f6 t (r8 bv r a)) (dh (f6 t (j6 (az (bf a) (az (lm (bf a) (gk c3 r (az (bf a) b7))) (az (gk c7 r (az (bf a) b7)) b7))))) (dh (j4 (zg l r (az (j6 (az gy b7)) (az (gk cl r (az (bf a) (az (bf a) b7))) (az (gf (ng (r8 e r a) (gf (jc (az (bf a) b7))))) b7))) a)) (dz (fz (bf a))))))))))
 have O:dP P w K mg base "House" "against" 8 (eO K cU bJ):=by exists zz E cs a8 ["self", "order", "piles", "more"] λr a t=>dh (f6 t (r8 Y r a)) (dh (ko (f6 t (kz (ky bl r (ij (az (bf a) (az (bf a) b7)))) (gk ha r (az (bf a) b7)))) (oZ (i:=3) t (Lh (ly bl r (ij (az (bf a) (az (bf a) b7))))))) (dz (ko (ko (fz (j6 (az (bf a) (az (ky X r (ij (az (bf a) (az (bf a) b7)))) (az (ky bm r (ij (az (bf a) (az (bf a) b7)))) b7))))) (tx (Ei (sL (bf a) (sL (ky X r (ij (az (bf a) (az (bf a) b7)))) (pB (ly bm r (ij (az (bf a) (az (bf a) b7)))))))))) (tx (Ei (sL (bf a) (pB (ly X r (ij (az (bf a) (az (bf a) b7)))))))))))
 have da:bN P w K mg base bV "_law_whole" 1 (cM K mQ):=by exists jv e5 ["_law_found"] λr a t=>dz (fz (x4 (wo Jm (bf a)) (x3 (IC (wo Jn (bf a))))))
 have hj:bN P w K mg base bV "_law_at" 1 (cM K pG):=by exists jv e6 ["_law_script", "_law_k"] λr a t=>dh (ii (qu (bf a) (lc a)) (dz (fz (e7 (bf a) a))) im) (dz (fz cg))
 have hk:bN P w K mg base bV "_law_draws" 2 (cM K pH):=by exists jv e8 ["_law_script", "_law_many_here", "_law_made", "_law_state", "_law_k", "_law_cell"] λr a t=>dh (oa (t.psF (jc b7))) (dh (f6 t cg) (dh (mr (ud (az (bf a) b7)) t.pg (dh (f6 t (gk hj r (az (bf a) (az (bf a) b7)))) (dh (ii (km (m9 (lc a) cg) cg) (dh (f6 t (m9 (lm (lm (lm (qk (bf a) cg) (bf a)) (bf a)) cg) cg)) (dz (f6 t (m9 (qk (lm (bf a) (bf a)) cg) cg)))) im) (dz (j4 (uc (bf a) a)))))) (dz (fz (bf a)))))
 have hl:bN P w K mg base bV "_law_other" 1 (kP K tU):=by exists yW e9 ["_law_stacks", "_law_figure", "_law_left", "_law_made", "_law_k", "_law_some", "_law_place"] λr a t=>dh (oa (t.psF (uq a (kg (bf a)) (λ_ _ _ _ _ _ _ a=>lc a)))) (dh (oa (t.psF (jc b7))) (dh (mr (ud (az (yD a) b7)) t.pg (dh (r_ (JL a t (JE (ud (az (lc a) b7))) (λ_ _ _ _ _ _ _ a=>n8 (e7 (bf a) a) cg) (λ_ _ _ _ _ _ _ a=>bf a))) (dh (f6 t (e7 (m9 (bf a) (lc a)) a)) (dh (f6 t (rh (bf a) (lc a))) (dh (xT (bf a) (kz (e7 (bf a) a) cg) a) (dz (j4 (uc (lm (bf a) cg) a)))))))) (dz (CL a))))
 have hm:bN P w K mg base bV "_law_best" 1 (cM K pQ):=by exists jv fa ["_law_sacks", "_law_best_here", "_law_hours", "_law_loss", "_law_k"] λr a t=>dh (f6 t (gf (jc (az cg (az cg (az (ul cg) b7)))))) (dh (f6 t cg) (dh (f6 t cg) (dh (mr (ud (az (lc a) b7)) t.pg (dh (f6 t (lm (bf a) (lw (e7 (bf a) a) cg))) (dh (f6 t (lm (bf a) (lw (e7 (bf a) a) cg))) (dz (ii (mB (qk (bf a) (e7 cg a)) (qk (e7 cg a) (bf a))) (dz (f6 t (gf (jc (az (lm (bf a) cg) (az (bf a) (az (bf a) b7))))))) im))))) (dz (fz (bf a))))))
 have hn:bN P w K mg base bV "_law_turns" 2 (cM K tQ):=by exists jv fc ["_law_stacks", "_law_left", "_law_made", "_law_heads", "_law_pick", "_law_k"] λr a t=>dh (oa (ze a t (kg (bf a)) (λ_ _ _ _ _ _ _ a=>gf (mE (az (bf a) b7))))) (dh (oa (t.psF (jc b7))) (dh (xS (n8 (yq (az (gf (JH a (Dm a) (λ_ _ _ _ _ _ _ a=>lc a))) b7)) cg) (dh (r_ (JJ a t (Dm a) (λ_ _ _ _ _ _ _ a=>gk hm r (az (bf a) b7)))) (dh (f6 t cg) (dh (mr (ud (az (lc a) b7)) t.pg (dz (ii (n8 (qk (lw (e7 (bf a) a) cg) (lw (e7 (bf a) a) cg)) (qk (lw (e7 (bf a) a) cg) (lw (e7 (bf a) a) cg))) (dz (f6 t (bf a))) im))) (dh (j4 (uc (j6 (az (lm (bf a) cg) (az (lw (e7 (bf a) a) cg) (az (lw (e7 (bf a) a) cg) (az (lw (e7 (bf a) a) cg) b7))))) a)) (dz (xT (bf a) (gf (qr (e7 (bf a) a) (qc (lw (e7 (bf a) a) cg)) tz)) a))))))) (dz (fz (bf a)))))
 have T:bN P w K mg base bV "_law_same_row" 2 (cM K vz):=by exists jv fe ["_law_found", "_law_due", "_law_k"] λr a t=>dh (ii (cX (qt (qw (pf (wo CQ (bf a)))) (qx (mD (lc a) (lc a))))) (dz (fz o9)) im) (dh (mr (ud (az (lc a) b7)) t.pg (dh (ii (cX (uk (pf (wo xY (e7 (bf a) a))) (ur (qw (pf (wo xY (e7 (bf a) a))))))) (dz (fz o9)) im) (dh (ii (cX (uk (qw (pf (wo xY (e7 (bf a) a)))) (ur (qw (pf (gk da r (az (e7 (bf a) a) b7))))))) (dz (fz o9)) im) (dz (ii (mD (e7 (bf a) a) (e7 (bf a) a)) (dz (fz o9)) im))))) (dz (fz o9)))
 have dd:bN P w K mg base bV "_law_same_rows" 3 (cM K yb):=by exists jv fg ["_law_found", "_law_due", "_law_k"] λr a t=>dh (ii (cX (qt (qw (pf (wo CP (bf a)))) (qx (mD (lc a) (lc a))))) (dz (fz o9)) im) (dh (mr (ud (az (lc a) b7)) t.pg (dz (ii (qw (pf (gk T r (az (e7 (bf a) a) (az (e7 (bf a) a) b7))))) (dz (fz o9)) im))) (dz (fz o9)))
 have ho:bN P w K mg base bV "_law_same_stacks" 4 (cM K zJ):=by exists jv fh ["_law_found", "_law_due", "_law_k"] λr a t=>dh (ii (cX (qt (qw (pf (wo CP (bf a)))) (qx (mD (lc a) (lc a))))) (dz (fz o9)) im) (dh (mr (ud (az (lc a) b7)) t.pg (dz (ii (qw (pf (gk dd r (az (e7 (bf a) a) (az (e7 (bf a) a) b7))))) (dz (fz o9)) im))) (dz (fz o9)))
 have dj:bN P w K mg base bV "_law_copy" 1 (kP K pO):=by exists yW fi ["_law_stacks"] λr a t=>dz (Jb (uq a (kg (bf a)) (λ_ _ _ _ _ _ _ a=>gf (mE (az (bf a) b7)))))
 obtain⟨RA,hR,hS⟩:=G.rot;have kk:tp P w K mg base "_law_kind" 1 iE:=by exists Lb fk ["_law_error", "_law_kinds", "_law_words", "_law_found"] N3 λu v y a t=>dh (f6 t (gf (jc (az (tq G u v y a) (az (tq G u v y a) b7))))) (dh (f6 t (gf (ng (bf a) (gf (jc (az (tq G u v y a) (az (tq G u v y a) b7))))))) (dh (f6 t (gf (ng (bf a) (gf (jc (az (tq G u v y a) (az (tq G u v y a) b7))))))) (dh (f6 t (gf (ng (bf a) (gf (jc (az (tq G u v y a) (az (tq G u v y a) b7))))))) (dh (f6 t (gf (ng (bf a) (gf (jc (az (tq G u v y a) (az (tq G u v y a) b7))))))) (dh (f6 t (gf (ng (bf a) (gf (jc (az (tq G u v y a) (az (tq G u v y a) b7))))))) (dh (f6 t (gf (ng (bf a) (gf (jc (az (tq G u v y a) b7)))))) (dh (f6 t (gf (jc (az gy (az gy (az gy (az gy (az gy (az gy b7))))))))) (dh (f6 t (gf (ng (bf a) (gf (jc (az gy (az gy (az gy (az gy (az gy b7)))))))))) (dh (f6 t (gf (ng (bf a) (gf (jc (az gy (az gy b7))))))) (dh (r_ (Je (λ_ _ _ _ _ _ _ I h=>y.comp I h) a t (CA (λit lo n=>KN it lo n) (az cg b7)) (λ_ _ _ _ _ _ _ y a=>cX (uk (pf (e7 (bf a) a)) (ur (pf (La G u v y a))))) (λ_ _ _ _ _ _ _ y a=>e7 (bf a) a))) (dz (fz (KW (az (gf (ng (gf (jc (az gy b7))) (bf a))) b7))))))))))))))
 have hp:bN P w K mg base bV "_law_deed" 1 (cM K nt):=by exists jv fl ["_law_cell", "_law_piles", "_law_many_here", "_law_words", "_law_word", "_law_odd", "_law_figure", "_law_at_here", "_law_hours", "_law_loss", "_law_tall", "_law_place"] λr a t=>dh (f6 t (lc a)) (dh (f6 t (gf (jc (az gy (az gy (az gy (az gy (az gy (az gy (az gy (az gy (az gy (az gy (az gy (az gy b7))))))))))))))) (dh (f6 t (e7 (m9 (bf a) cg) a)) (dh (f6 t (m9 (rh (bf a) cg) cg)) (dh (f6 t (rh (bf a) cg)) (dh (f6 t (lm cg (m9 (bf a) (C3 (az (bf a) (az cg b7)))))) (dh (f6 t (rh (bf a) cg)) (dh (ii (cX (qt (km (bf a) cg) (qx (km (bf a) cg)))) (dz (f6 t (lw (gf (jc (az cg (az (lm (bf a) cg) (az (ul cg) (az (yo cg cg) b7)))))) (m9 (bf a) cg)))) im) (dh (f6 t (lm cg (m9 (bf a) cg))) (dh (ii (km (bf a) cg) (dz (f6 t (lw (gf (jc (az cg (az cg (az (ul cg) (az (yo cg cg) b7)))))) (m9 (bf a) cg)))) im) (dh (f6 t (m9 (rh (bf a) cg) cg)) (dh (ii (n8 (bf a) cg) (dh (f6 t (lm cg (m9 (bf a) cg))) (dz (f6 t (m9 (bf a) cg)))) im) (dh (ii (km (bf a) cg) (dz (f6 t (lw (gf (jc (az (ul cg) (az cg (az (ul (yo cg cg)) (az (yo cg cg) b7)))))) (m9 (rh (bf a) cg) cg)))) im) (dh (f6 t cg) (dh (ii (cX (uk (C1 cg (bf a)) (ur (C1 (bf a) (bf a))))) (dz (f6 t (xq (az (e7 (kz (bf a) cg) a) b7)))) im) (dh (f6 t (lm cg (m9 (rh (bf a) cg) (C3 (az (bf a) (az cg b7)))))) (dh (ii (km (bf a) cg) (dz (f6 t (lw (gf (jc (az cg (az (lm (bf a) cg) (az (ul cg) (az (yo cg cg) b7)))))) (m9 (rh (bf a) cg) cg)))) im) (dh (ii (km (bf a) gy) (dz (fz (j6 (az gy (az (bf a) (az (bf a) (az (bf a) b7))))))) im) (dh (ii (km (bf a) gy) (dz (fz (j6 (az gy (az (bf a) (az (bf a) (az (bf a) b7))))))) im) (dh (ii (km (bf a) gy) (dz (fz (j6 (az gy (az (bf a) b7))))) im) (dz (fz (j6 (az (bf a) b7)))))))))))))))))))))))
 have hq:bN P w K mg base bV "_law_refusal" 1 (cM K qE):=by exists jv fp ["_law_piles", "_law_kept", "_law_deed_here", "_law_word"] λr a t=>dh (f6 t (e7 cg a)) (dh (ii (km (bf a) gy) (dz (fz (lw (gf (jc (az gy (az gy b7)))) (IK (az (C0 (bf a) cg) b7))))) im) (dh (ii (km (bf a) gy) (dz (ii (km (yq (az (gf (uq a (kg (bf a)) (λ_ _ _ _ _ _ _ a=>lc a))) b7)) cg) (dz (fz gy)) im)) (dz (ii (cX (qt (qu (e7 cg a) cg) (qx (n8 (e7 cg a) (lc a))))) (dz (fz gy)) (dz (ii (cX (uk (mD (bf a) gy) (ur (km (xq (az (e7 (kz (e7 cg a) cg) a) b7)) cg)))) (dz (fz gy)) im))))) (dh (ii (cX (uk (km (bf a) gy) (ur (cX (qt (qu (e7 cg a) cg) (qx (n8 (e7 cg a) (xq (az (e7 (kz (e7 cg a) cg) a) b7))))))))) (dz (fz gy)) im) (dh (ii (cX (uk (km (bf a) gy) (ur (cX (qt (qu (e7 cg a) cg) (qx (n8 (e7 cg a) cg))))))) (dz (fz gy)) im) (dh (ii (cX (uk (cX (qt (km (bf a) gy) (qx (km (bf a) gy)))) (ur (cX (qt (qu (e7 cg a) cg) (qx (n8 (e7 cg a) cg))))))) (dz (fz gy)) im) (dh (ii (cX (uk (km (bf a) gy) (ur (mB (yq (az (gf (uq a (kg (bf a)) (λ_ _ _ _ _ _ _ a=>lc a))) b7)) cg)))) (dz (fz gy)) im) (dh (ii (mB (bf a) cg) (dz (fz gy)) im) (dz (fz gy)))))))))
 have dk:bN P w K mg base (dG P w) "_law_ask" 8 (gB K v4 n4):=by exists yX fr ["_law_house", "_law_deed_here"] λr a t=>dh (ii (km (e7 cg a) gy) (dz (ko (fz (zg H r (az (e7 cg a) (az (e7 cg a) (az (e7 cg a) b7))) a)) (tx (yQ H r (az (e7 cg a) (az (e7 cg a) (az (e7 cg a) b7))) a)))) im) (dh (ii (km (e7 cg a) gy) (dz (ko (fz (zg J r (az (e7 cg a) (az (e7 cg a) (az (e7 cg a) b7))) a)) (tx (yQ J r (az (e7 cg a) (az (e7 cg a) (az (e7 cg a) b7))) a)))) im) (dh (ii (km (e7 cg a) gy) (dz (ko (fz (zg L r (az (e7 cg a) b7) a)) (tx (yQ L r (az (e7 cg a) b7) a)))) im) (dh (ii (km (e7 cg a) gy) (dz (ko (fz (DN N r a)) (tx (DO N r a)))) im) (dz (ko (fz (DN M r a)) (tx (DO M r a)))))))
 have b2:bN P w K mg base (dG P w) "_law_call" 9 (gB K rn N4):=by exists yX fs ["_law_house", "_law_deed_here", "_law_refused", "e"] λr a t=>dh (f6 t (j6 (az gy (az gy b7)))) (dh (Ef hR hS kk r a t (λ_ _ a t=>dz (ko (fz (o_ dk r (ua (ij (az (bf a) b7)) a))) (tx (Kr dk r (ua (ij (az (bf a) b7)) a)))))) (dz (fz (bf a))))
 have hr:bN P w K mg base bV "_law_step" 3 (cM K vt):=by exists jv fv ["_law_piles", "_law_deed_here", "_law_number", "_law_left", "_law_k", "_law_sack"] λr a t=>dh (Jg (Jj a t (kg (bf a)) (λ_ _ _ _ _ _ _ a=>mE (az (bf a) b7)))) (dh (f6 t cg) (dh (ii (n8 (lc a) cg) (dz (f6 t (kz (e7 cg a) cg))) im) (dh (ii (km (e7 cg a) gy) (dh (Eb (λ_ _=>bf a) (DX (λ_ _=>ng (gf (jc (az (j6 (az (bf a) (az (e7 cg a) (az (e7 cg a) b7)))) b7))) (e7 (bf a) a))) a) (dz (fz (gf (jc (az (bf a) (az (bf a) b7))))))) im) (dh (ii (km (e7 cg a) gy) (dh (f6 t (wq (λ_ _=>lw (e7 (bf a) a) (kz (e7 cg a) cg)))) (dh (K7 (λ_ _=>bf a) (λ_ _=>kz (e7 cg a) cg) (j6 (az (e7 cg a) (az (e7 cg a) (az (e7 cg a) b7)))) a) (dz (fz (gf (jc (az (bf a) (az (e7 cg a) b7)))))))) im) (dh (ii (km (e7 cg a) gy) (dz (f6 t (kz (lw (lw (gk hn r (az (bf a) b7)) cg) cg) cg))) im) (dh (f6 t (wq (λ_ _=>lw (e7 (bf a) a) cg))) (dh (Eb (λ_ _=>bf a) (DX (λ_ _=>qr (e7 (bf a) a) (qc cg) tz)) a) (dz (fz (gf (jc (az (bf a) (az (bf a) b7)))))))))))))
 have hs:bN P w K mg base bV "_law_rate" 1 (cM K uR):=by exists jv fw ["_law_piles"] λr a t=>dz (fz (yq (az (gf (uq a (kg (bf a)) (λ_ _ _ _ _ _ _ a=>yq (az (gf (uq a (kg (bf a)) (λ_ _ _ _ _ _ _ a=>e7 cg a))) b7)))) b7)))
 have ht:bN P w K mg base bV "_law_same_answer" 3 (cM K nu):=by exists jv f0 ["_law_found", "_law_due"] λr a t=>dh (ii (pf (wo CQ (bf a))) (dz (fz (gk T r (az (bf a) (az (bf a) b7))))) im) (dz (fz (x4 (gk da r (az (bf a) b7)) (x3 (C0 (bf a) (bf a))))))
 have hu:bN P w K mg base bV "_law_many" 1 (cM K uT):=by exists jv f1 ["_law_header"] λr a t=>dz (fz (lw (gf (jc (az cg (az cg (az cg (az cg (az cg (az cg (az cg (az cg (az cg (az cg (az cg (az cg b7)))))))))))))) (m9 (bf a) cg)))
 have hv:bN P w K mg base bV "_law_rates" 1 (cM K AC):=by exists jv f2 ["_law_dried", "_law_rates_here", "_law_begun", "_law_dry", "_law_rate_here"] λr a t=>dh (f6 t (gf (jc b7))) (dh (si (kg (bf a)) (lb t (lb t (lb t tu))) (dz (f6 t (gf (ng (bf a) (gf (CU (jc (az (bf a) b7)) (kz (bf a) (bf a))))))))) (dz (fz (bf a))))
 have hw:bN P w K mg base (dG P w) "_law_do" 10 (gB K vq N5):=by exists yX f3 ["_law_house", "_law_state", "_law_deed_here", "_law_piles", "_law_kept", "_law_past", "_law_dried", "_law_due", "_law_found", "_law_ahead", "_law_step_here", "_law_hour"] λr a t=>dh (K9 (lb t (lb t (lb t (lb t tu)))) a) (dh (f6 t (gk hq r (az (bf a) (az (DQ (pb a)) (az (bf a) b7))))) (dh (f6 t (o_ b2 r (ua (ij (az (bf a) b7)) a))) (dh (ii (mD (bf a) gy) (dz (fz (gk T r (az (bf a) (az (j6 (az gy (az (bf a) b7))) b7))))) im) (dh (ii (km (e7 cg a) gy) (dh (f6 t (sS (pb a))) (dh (sU (e7 cg a) a) (dh (sU (e7 cg a) a) (dz (fz (gk T r (az (bf a) (az (sS (pb a)) b7)))))))) im) (dh (f6 t (gk hr r (az (bf a) (az (bf a) (az (wq (λ_ _=>lm cg (xq (az (gf (CJ a (kg (bf a)) (λ_ _ _ _ _ _ _ a=>km (e7 cg a) gy) (λ_ _ _ _ _ _ _ a=>bf a))) b7)))) b7))))) (dh (j4 (sT (pb a) (j6 (az (bf a) (az (bf a) b7))))) (dh (j4 (sT (pb a) (bf a))) (dh (sU (e7 cg a) a) (dh (ii (km (e7 cg a) gy) (dh (f6 t (xq (az (gk hv r (az (bf a) b7)) b7))) (dz (sU (gf (ng (bf a) (gf (jc (az (j6 (az (bf a) (az (lm (bf a) (lw (e7 cg a) cg)) (az (gk hs r (az (bf a) b7)) b7)))) b7))))) a))) im) (dz (fz (gk ht r (az (bf a) (az (e7 cg a) b7))))))))))))))
 have hx:bN P w K mg base (dG P w) "_law_new" 1 (sW K uU MX):=by exists KC f4 ["_law_many_here"] λr a t=>dz (Ky (K6 (DY (λ_ _=>gf (uq a (ud (az (bf a) b7)) (λ_ _ _ _ _ _ _ a=>gf (jc b7)))) (DZ (λ_ _=>jc b7) (DZ (λ_ _=>jc b7) (DY (λ_ _=>gf (jc b7)) K5))))))
 have dn:bN P w K mg base (dG P w) "_law_doors" 9 (eO K FF qT):=by exists pj f5 ["_law_house", "_law_piles", "_law_turns_here", "_law_door"] λr a t=>dh (ii (km (bf a) cg) (dz (ko (fz (Ks O r (az (bf a) b7) a)) (tx (Kt O r (az (bf a) b7) a)))) im) (dh (ii (km (bf a) cg) (dz (ko (fz (ky bk r (ij (az (bf a) (az (bf a) b7))))) (tx (ly bk r (ij (az (bf a) (az (bf a) b7))))))) im) (dh (ii (km (bf a) cg) (dz (ko (fz (ky bl r (ij (az (bf a) (az (bf a) b7))))) (tx (ly bl r (ij (az (bf a) (az (bf a) b7))))))) im) (dh (ii (km (bf a) cg) (dz (ko (fz (ky X r (ij (az (bf a) (az (bf a) b7))))) (tx (ly X r (ij (az (bf a) (az (bf a) b7))))))) im) (dz (ko (fz (ky bm r (ij (az (bf a) (az (bf a) b7))))) (tx (ly bm r (ij (az (bf a) (az (bf a) b7))))))))))
 have aa:bN P w K mg base (dG P w) "_law_all_doors" 10 (eO K yc Oo):=by exists pj cd ["_law_house", "_law_piles", "_law_turns_here", "_law_due", "_law_door", "_law_refused", "e"] λr a t=>dh (mr (ud (az cg b7)) t.pg (dh (f6 t (j6 (az gy (az gy b7)))) (dh (Ef hR hS kk r a t (λ_ _ a t=>dz (ko (j4 (ky dn r (ua (ij (az (gf (za dj r (az (bf a) b7))) (az (gf (mE (az (bf a) b7))) (az (bf a) b7)))) a))) (oo (ly dn r (ua (ij (az (gf (za dj r (az (bf a) b7))) (az (gf (mE (az (bf a) b7))) (az (bf a) b7)))) a)))))) (dz (ii (Lk r (bf a) (j6 (az gy (az (bf a) b7)))) (dz (fz o9)) im))))) (dz (fz o9))
 have b0:bN P w K mg base bV "_law_unknown" 1 (cM K vJ):=by exists jv ce ["_law_many_here", "_law_cell", "_law_far"] λr a t=>dh (f6 t (qk (kz cg (qk cg (m9 (bf a) cg))) (lm cg (m9 (rh (bf a) cg) (yo cg cg))))) (dz (fz (gf (jc (az cg (az (ul cg) (az (lm (bf a) cg) (az (yo cg cg) (az (bf a) b7)))))))))
 exact KF ["_law_script", "_law_draws_here", "_law_many_here", "_law_house", "_law_state", "_law_cell", "_law_piles", "_law_place", "_law_loss", "_law_at_here", "_law_deed_here", "_law_whole_here", "_law_spot", "_law_odd", "_law_k", "_law_full", "_law_late"] λr a t=>dh (f6 t (gk hk r (az (bf a) (az cg b7)))) (dh (f6 t (gk hu r (az (e7 cg a) b7))) (dh (DW t (K2 br r (az (bf a) b7))) (dh (DW t (K0 hx r (az (bf a) b7))) (dh (mr (kg (gf (qr (bf a) (qc cg) (qc (kz cg (m9 (rh (e7 cg a) cg) cg)))))) t.pg (dz (ii (qw (pf (o_ hw r (ua (ua (ij (az (gk hp r (az (bf a) (az (DU a) b7))) b7)) a) a)))) (dz (fz o9)) im))) (dh (f6 t (DU a)) (dh (f6 t (m9 (e7 cg a) cg)) (dh (f6 t (kz (m9 (rh (e7 cg a) cg) cg) cg)) (dh (mr (kg (gk b0 r (az (bf a) (az (e7 cg a) b7)))) t.pg (dz (mr (kg (gf (jc (az (j6 (az gy (az (bf a) (az (bf a) (az (bf a) b7))))) (az (j6 (az gy (az (bf a) (az (bf a) (az (bf a) b7))))) (az (j6 (az gy (az (bf a) b7))) b7)))))) t.pg (dz (ii (qw (pf (gk T r (az (o_ b2 r (ua (ij (az (bf a) b7)) a)) (az (j6 (az gy (az gy b7))) b7))))) (dz (fz o9)) im))))) (dh (f6 t (gf (za hl r (az (bf a) (az (e7 cg a) b7))))) (dh (f6 t (m9 (rh (e7 cg a) cg) (lm (lc a) cg))) (dh (f6 t (lw (gk b0 r (az (bf a) (az (e7 cg a) b7))) (m9 (rh (e7 cg a) cg) cg))) (dh (mr (ud (az (bf a) b7)) t.pg (dh (f6 t (gf (ng (gf (ng (gf (qr (bf a) tz (qc (bf a)))) (gf (jc (az (lm (bf a) cg) b7))))) (gf (qr (bf a) (qc (bf a)) tz))))) (dh (ii (qw (pf (ky aa r (ua (ij (az (bf a) (az (bf a) (az gy b7)))) a)))) (dz (fz o9)) im) (dh (f6 t (m9 (rh (e7 cg a) cg) (lm (lc a) cg))) (dh (ii (qw (pf (ky aa r (ua (ij (az (bf a) (az (gf (ng (gf (ng (gf (qr (bf a) tz (qc (bf a)))) (gf (jc (az (bf a) b7))))) (gf (qr (bf a) (qc (bf a)) tz)))) (az gy b7)))) a)))) (dz (fz o9)) im) (dz (ii (km (xq (az (e7 (bf a) a) b7)) cg) (dz (mr (kg (gf (jc (az (j6 (az gy (az (lm (bf a) cg) (az (bf a) (az (bf a) b7))))) (az (j6 (az gy (az (lm (bf a) cg) b7))) b7))))) t.pg (dz (ii (qw (pf (gk T r (az (o_ b2 r (ua (ij (az (bf a) b7)) a)) (az (j6 (az gy (az gy b7))) b7))))) (dz (fz o9)) im)))) im))))))) (dh (ii (qw (pf (ky aa r (ua (ij (az (bf a) (az (gf (ng (bf a) (gf (jc (az (bf a) b7))))) (az gy b7)))) a)))) (dz (fz o9)) im) (dz (fz (x4 (gk ho r (az (r8 bt r a) (az (bf a) b7))) (x3 (wq (λ_ _=>gk dd r (az (r8 bs r a) (az (e7 cg a) b7)))))))))))))))))))))
end SQ
namespace SQ
open PySem L2 LB
variable{F:FA}{e:aP}{r:k4×aP}
def kR{m:k9->k4->ka}(h:F e=↑r):j2 m [] F e=(m [] r.1).map λc=>(c,r.2):=by
 unfold j2;rw[am (show dW e [] from λk I=>by cases I),h];rfl
def FN{m:k9->k4->k6}(h:F e=↑r):iz m [] F e=(m [] r.1).map λd=>(d,r.2):=by
 unfold iz;rw[am (show dW e [] from λk I=>by cases I),h];rfl
variable{ss:ln}
theorem FQ(O:D):∀(os:ik) (v:k8),((∀a∈os,1<=a/\a<=ss.length)->∃Y,cF 2 zn (os.map D.int) [!aG ss,!O,v]=↑(.nx,[!aG ss,!O,Y])) /\
  ((∃a∈os,a<1\/ss.length<a)->∃e',cF 2 zn (os.map D.int) [!aG ss,!O,v]=↑(.xc "UnknownStack",e'))
 | [],v=>⟨λ_=>⟨v,rfl⟩,λ⟨a,h,_⟩=>by cases h⟩
 |a::os,v=>by
   have U:=FQ O os ⇑↥a;have Z:=λ(m:k9->k4->ka)=>kR (m:=m) (F:=ak (aB 0) (ak (aB 2) aC)) (e:=[!aG ss,!O,!↥a]) (r:=([aG ss,↥a],[!aG ss,!O,!↥a])) rfl;have c:=λ(m:k9->k4->k6)=>FN (m:=m) (F:=ak (aB 0) (ak (aB 2) aC)) (e:=[!aG ss,!O,!↥a]) (r:=([aG ss,↥a],[!aG ss,!O,!↥a])) rfl;have I:=Z vy;have V:=c x9;by_cases S:1<=a/\a<=ss.length
   ·obtain⟨k1,k2⟩:=zd (ss:=ss) S.1 S.2
    rw[k1] at I;rw[k2] at V;have st:cF 2 zn ((a::os).map D.int) [!aG ss,!O,v]=cF 2 zn (os.map D.int) [!aG ss,!O,!↥a]:=by
     rw[b9,cF];generalize aG ss=SL at *;simp[zn,cA,I,V]
    rw[st];exact⟨λh=>U.1 λb hb=>h b (bg _ hb),λ⟨b,hb,h⟩=>U.2 (by
     rcases b6.mp hb with rfl |hb
     ·lia
     ·exact⟨b,hb,h⟩)⟩
   ·have k1:=uZ (ss:=ss) (a:=a) ∅
    rw[k1] at I;refine⟨λh=>absurd (h a bi) S,λ_=>⟨[!aG ss,!O,!↥a],?_⟩⟩;rw[b9,cF];generalize aG ss=SL at *;simp[zn,cA,I]
theorem FR(l:ss.length<=5)(O:D):∀(q p:ic) (v:k8),(∀a∈q,1<=a/\a<=ss.length)->(∀j,j<ss.length->0<=aQ ss p j) ->
  ((∀j,j<ss.length->0<=aQ ss (p++q) j)->∃m,cF 3 u7 (iD q) [!aG ss,!O,↑(.ow (bE ss.length (aQ ss p))),v]=↑(.nx,[!aG ss,!O,↑(.ow (bE ss.length (aQ ss (p++q)))),m])) /\
  ((∃j,j<ss.length/\aQ ss (p++q) j<0)->∃e',cF 3 u7 (iD q) [!aG ss,!O,↑(.ow (bE ss.length (aQ ss p))),v]=↑(.xc "EmptyStack",e'))
 | [],p,v,_,hp=>⟨λ_=>⟨v,by rw[du];rfl⟩,λ⟨j,Y,h⟩=>by rw[du] at h;have:=hp j Y;lia⟩ |a::q,p,v,hq,hp=>by
   obtain⟨n,w⟩:=hq a bi;have f:(a:Int)-1=((a-1:Nat):Int):=by lia
   have S:=pV ss.length (aQ ss p) (a-1) ∅;have U:=Au ss.length (aQ ss p) (a-1) ∅;have x:=hp (a-1) ∅;have Z:p++a::q=(p++[a])++q:=by simp
   by_cases V:aQ ss p (a-1)=0
   ·have o:aQ ss (p++a::q) (a-1)<0:=by
     unfold aQ at V ⊢;rw[show a-1+1=a by lia] at V ⊢;rw[ml,o7]
     lia
    refine⟨λh=>by have:=h (a-1) ∅;lia,λ_=>⟨[!aG ss,!O,↑(.ow (bE ss.length (aQ ss p))),!↥(a:Int)],?_⟩⟩;rw[V] at S;show((u7 [!aG ss,!O,↑(.ow (bE ss.length (aQ ss p))),!↥(a:Int)]).bind _)=_;have ab:(a:Int).natAbs<1000000:=by lia
    generalize bE ss.length (aQ ss p)=L at *;generalize aG ss=SL at *;have e:u7 [!SL,!O,↑(.ow L),!↥(a:Int)]=↑(.xc "EmptyStack",[!SL,!O,↑(.ow L),!↥(a:Int)]):=by
     simp[u7,f,S,mj,vInt,show a<1000000 by lia]
    rw[e];rfl
   ·obtain⟨g,k⟩:=Ax ss p a n
    have I:=uD ss.length (aQ ss p) (aQ ss (p++[a])) (a-1) (λi _ hi=>k i hi);rw[g] at I;have r:decide (aQ ss p (a-1)=0)=false:=eg V;have d:a-1<(bE ss.length (aQ ss p)).length:=by rw[mY];lia
    have s:(0:Int)<=((a-1:Nat):Int):=by lia
    have t:=FR l O q (p++[a]) ⇑↥(a:Int) (λb u=>hq b (bg _ u)) λj Y=>by
     by_cases c:j=a-1
     ·subst c;rw[g];lia
     ·rw[k j c];exact hp j Y
    have st:cF 3 u7 (iD (a::q)) [!aG ss,!O,↑(.ow (bE ss.length (aQ ss p))),v]=cF 3 u7 (iD q) [!aG ss,!O,↑(.ow (bE ss.length (aQ ss (p++[a])))),!↥(a:Int)]:=by
     show((u7 [!aG ss,!O,↑(.ow (bE ss.length (aQ ss p))),!↥(a:Int)]).bind _)=_;have e:u7 [!aG ss,!O,↑(.ow (bE ss.length (aQ ss p))),!↥(a:Int)]=↑(.nx,[!aG ss,!O,↑(.ow (bE ss.length (aQ ss (p++[a])))),!↥(a:Int)]):=by
      rw[<-I];generalize bE ss.length (aQ ss p)=L at *;simp only[u7,aE,aV,aM,uj,oN,aI,aD,aF,bP,aB,fC,aZ,bU,ae,af,ac,ah,av,aw,f,S,r,bx,ff,s,dm,iy,U,d]
     rw[e];rfl
    rw[st,Z];exact t
noncomputable def left(ss:ln)(os:ic):Int:=((List.range ss.length).map (aQ ss os)).sum
theorem Op(Z:ss.length<=5)(os:ic)(b:∀a∈os,1<=a/\a<=ss.length) :
  ((∃j,j<ss.length/\aQ ss os j<0)->zl [] [aG ss,.lst (iD os)]=↑("EmptyStack" : Str)) /\
  ((∀j,j<ss.length->0<=aQ ss os j)->0<left ss os->zl [] [aG ss,.lst (iD os)]=↑("ShortOrder" : Str)) /\
  ((∀j,j<ss.length->0<=aQ ss os j)->¬0<left ss os->zl [] [aG ss,.lst (iD os)]=none/\qR [] [aG ss,.lst (iD os)]=some .non):=by
 have U:=FR Z (.lst (iD os)) os [] none b λj d=>by
  unfold aQ;simp
 rw[lj] at U;have I:=Ay ss.length (aQ ss os);have V:=Aw ss;have Y:cI (ss.map λs=>D.lst (s.map sD)).length:=few (by rw[ai];lia);unfold zl qR xQ bL;rw[am ⟨rfl,rfl⟩,am ⟨rfl,rfl⟩,show kx 4 [] [aG ss,.lst (iD os)]=[!aG ss,!.lst (iD os),none,none] from rfl];refine⟨λh=>?_,λh S=>?_,λh S=>?_⟩
 ·obtain⟨e',h1⟩:=U.2 h
  unfold aG at *;generalize iD os=O at *;generalize (ss.map λs=>D.lst (s.map sD))=L at *;simp[qQ,jf,Y,V,h1]
 ·obtain⟨c,h1⟩:=U.1 h
  unfold left at S;unfold aG at *;generalize iD os=O at *;generalize (ss.map λs=>D.lst (s.map sD))=L at *;simp[qQ,jf,Y,V,h1,we,I,S,mj]
 ·obtain⟨c,h1⟩:=U.1 h
  unfold left at S;unfold aG at *;generalize iD os=O at *;generalize (ss.map λs=>D.lst (s.map sD))=L at *;simp[qQ,jf,Y,V,h1,we,I,S]
open Classical in
noncomputable def cls(ss:ln)(os:ik):ka :=
 if ∃a∈os,a<1\/(ss.length:Int)<a then some "UnknownStack" else if ∃j,j<ss.length/\aQ ss (os.map Int.toNat) j<0 then some "EmptyStack" else if 0<left ss (os.map Int.toNat) then some "ShortOrder" else none
variable{n:Nat}{os:ik}
theorem Oq(h:∀a∈os,1<=a/\a<=(n:Int)):os.map D.int=iD (os.map Int.toNat)/\∀b∈os.map Int.toNat,1<=b/\b<=n:=by
 constructor
 ·unfold iD
  rw[gg];exact jt λa I=>by
   have:=h a I;show D.int a=D.int ((a.toNat:Nat):Int);rw[Int.toNat_of_nonneg ∅]
 ·intro b S
  obtain⟨a,I,rfl⟩:=f7.mp S;have:=h a I
  lia
theorem Os(h:¬ ∃a∈os,a<1\/(ss.length:Int)<a):∀a∈os,1<=a/\a<=(ss.length:Int):=λa D=>by
 by_cases c:1<=a/\a<=(ss.length:Int)
 ·exact c
 ·exact absurd ⟨a,D,by lia⟩ h
theorem Ot(l:ss.length<=5)(os:ik):qS [] [aG ss,.lst (os.map D.int)]=cls ss os/\(cls ss os=none->vH [] [aG ss,.lst (os.map D.int)]=some .non):=by
 have b:=FQ (ss:=ss) (.lst (os.map D.int)) os none;unfold qS vH xQ bL;rw[am ⟨rfl,rfl⟩,am ⟨rfl,rfl⟩,show kx 3 [] [aG ss,.lst (os.map D.int)]=[!aG ss,!.lst (os.map D.int),none] from rfl];unfold cls;by_cases S:∃a∈os,a<1\/(ss.length:Int)<a
 ·rw[am S]
  obtain⟨e',h1⟩:=b.2 S;refine⟨?_,λh=>by cases h⟩;generalize os.map D.int=OS at *;generalize aG ss=SL at *;simp[zk,h1]
 ·rw[bw S]
  have d:=Os S;obtain⟨U,h1⟩:=b.1 d;obtain⟨n,k2⟩:=Oq d;obtain⟨f,g,i⟩:=Op l (os.map Int.toNat) k2;rw[<-n] at f g i;have I:=kR (m:=zl) (F:=ak (aB 0) (ak (aB 1) aC)) (e:=[!aG ss,!.lst (os.map D.int),U]) (r:=([aG ss,.lst (os.map D.int)],[!aG ss,!.lst (os.map D.int),U])) rfl;have Z:=FN (m:=qR) (F:=ak (aB 0) (ak (aB 1) aC)) (e:=[!aG ss,!.lst (os.map D.int),U]) (r:=([aG ss,.lst (os.map D.int)],[!aG ss,!.lst (os.map D.int),U])) rfl;by_cases V:∃j,j<ss.length/\aQ ss (os.map Int.toNat) j<0
  ·rw[am V]
   rw[f V] at I;refine⟨?_,λh=>by cases h⟩;generalize os.map D.int=OS at *;generalize aG ss=SL at *;simp[zk,h1,cA,I]
  ·rw[bw V]
   have k:∀j,j<ss.length->0<=aQ ss (os.map Int.toNat) j:=λj o=>by
    by_cases c:0<=aQ ss (os.map Int.toNat) j
    ·exact c
    ·exact absurd ⟨j,o,by lia⟩ V
   by_cases Y:0<left ss (os.map Int.toNat)
   ·rw[am Y]
    rw[g k Y] at I;refine⟨?_,λh=>by cases h⟩;generalize os.map D.int=OS at *;generalize aG ss=SL at *;simp[zk,h1,cA,I]
   ·rw[bw Y]
    obtain⟨p,q⟩:=i k Y;rw[p] at I;rw[q] at Z;generalize os.map D.int=OS at *;generalize aG ss=SL at *;constructor
    ·simp[zk,h1,cA,I,Z]
    ·intro _
     simp[zk,h1,cA,I,Z]
abbrev F2:FA:=ak (aB 0) (ak (aB 1) aC)
def f2(a b:D)(e:aP):F2 (⇑a::⇑b::e)=↑([a,b],⇑a::⇑b::e):=by
 simp[ak,aC]
def x2(m:k9->k4->ka)(a b:D)(e:aP):j2 m [] F2 (⇑a::⇑b::e)=(m [] [a,b]).map λc=>(c,⇑a::⇑b::e):=kR (f2 a b e)
variable{c:Str}
def Bq(I:ss.length<=5)(h:cls ss os=↑c):u6 [] [aG ss,.lst (os.map D.int)]=↑c:=by
 have a:=x2 qS (aG ss) (.lst (os.map D.int)) [none,none,none];rw[(Ot I os).1,h] at a;unfold u6 xQ;rw[am ⟨rfl,rfl⟩,show kx 5 [] [aG ss,.lst (os.map D.int)]=[!aG ss,!.lst (os.map D.int),none,none,none] from rfl];unfold Bb;simp only[aE,cA,a,ah,ac]
def FU(I:ss.length<=5)(h:cls ss os=↑c):zj [] [aG ss,.lst (os.map D.int)]=↑c:=by
 have a:=x2 u6 (aG ss) (.lst (os.map D.int)) [↑(.ow []),!↥0,none,none,none];rw[Bq I h] at a;unfold zj xQ;rw[am ⟨rfl,rfl⟩,show kx 7 [] [aG ss,.lst (os.map D.int)]=[!aG ss,!.lst (os.map D.int),none,none,none,none,none] from rfl];unfold Bc;simp only[aE,cQ,aH,cA,xm,gi,aC,fC,aB,a,av,aw,ae,af,ah,ac,bq,ie,dm]
def FW(I:ss.length<=5)(h:cls ss os=↑c):zi [] [aG ss,.lst (os.map D.int)]=↑c:=by
 have a:=x2 u6 (aG ss) (.lst (os.map D.int)) [!↥0,!↥0,none];rw[Bq I h] at a;unfold zi xQ;rw[am ⟨rfl,rfl⟩,show kx 5 [] [aG ss,.lst (os.map D.int)]=[!aG ss,!.lst (os.map D.int),none,none,none] from rfl];unfold Bf;simp only[aE,aH,cA,fC,a,av,aw,ah,ac]
def Ou(I:ss.length<=5)(h:cls ss os=↑c):nC [] [aG ss,.lst (os.map D.int)]=↑c:=by
 have a:=x2 u6 (aG ss) (.lst (os.map D.int)) [none,none,none,none,none,none,none];rw[Bq I h] at a;unfold nC xQ;rw[am ⟨rfl,rfl⟩,show kx 9 [] [aG ss,.lst (os.map D.int)]=[!aG ss,!.lst (os.map D.int),none,none,none,none,none,none,none] from rfl];unfold Bh;simp only[aE,aH,cA,a,ah,ac]
def Ov(I:ss.length<=5)(h:cls ss os=↑c):nD [] [aG ss,.lst (os.map D.int)]=↑c:=by
 have a:=x2 zj (aG ss) (.lst (os.map D.int)) [none,none,none,none,none];rw[FU I h] at a;unfold nD xQ;rw[am ⟨rfl,rfl⟩,show kx 7 [] [aG ss,.lst (os.map D.int)]=[!aG ss,!.lst (os.map D.int),none,none,none,none,none] from rfl];unfold Bi;simp only[aE,aH,cA,a,ah,ac]
def Ox(a b:D)(v0 I:k8):ak (aB 2) (ak (aB 1) aC) [v0,!a,!b,I]=↑([b,a],[v0,!a,!b,I]):=by
 simp[ak,aC]
variable{k:lx}{p:l1}{s:Hs}
def Oy(I:s.1.length<=5)(h:cls s.1 os=↑c):bJ [hA k (p++[s])] [.lst (os.map D.int)]=↑c:=by
 have S:=vp (k:=k) (p:=p) (s:=s);have a:=kR (m:=zi) (Ox (.lst (os.map D.int)) (aG s.1) ↑(.ro kH (hP k (p++[s]))) none);rw[FW I h] at a;unfold bJ xQ;rw[am ⟨rfl,rfl⟩,show kx 4 [hA k (p++[s])] [.lst (os.map D.int)]=[↑(.ro kH (hP k (p++[s]))),!.lst (os.map D.int),none,none] from rfl];unfold bI;rw[show(AK.ins false "House" jm)=kH from rfl];generalize aG s.1=SS at *;generalize os.map D.int=OS at *;simp only[aE,aH,cA,AO,gM,Nk,S,a,aC,av,aw,ah,ac]
def Oz(a b:D)(v0:k8)(e:aP):ak (aB 1) (ak (aB 2) aC) (v0::⇑a::⇑b::e)=↑([a,b],v0::⇑a::⇑b::e):=by
 simp[ak,aC]
def O0(j:Nat)(S:j<5)(I:s.1.length<=5)(h:cls s.1 os=↑c):qT [hA k (p++[s])] [aG s.1,.lst (os.map D.int),↥(j:Int)]=↑c:=by
 have f:=Oz (aG s.1) (.lst (os.map D.int)) ↑(.ro kH (hP k (p++[s]))) [!↥(j:Int)];have U:=kR (m:=zj) f;have V:=kR (m:=zi) f;have Y:=kR (m:=nC) f;have Z:=kR (m:=nD) f;simp only[FU I h,FW I h,Ou I h,Ov I h,ah] at U V Y Z;have a:=Oy (k:=k) (p:=p) (s:=s) I h;have b:xK kH 0 (j2 bJ [0] (ak (aB 2) aC)) [↑(.ro kH (hP k (p++[s]))),!aG s.1,!.lst (os.map D.int),!↥(j:Int)]=↑(c,[↑(.ro kH (hP k (p++[s]))),!aG s.1,!.lst (os.map D.int),!↥(j:Int)]):=by
  rw[MZ rfl];unfold j2;rw[am (show dW _ [0] from λj S=>by rw[dc.mp S];exact⟨_,rfl⟩)];have g:eD ([↑(Sl.ro kH (hP k (p++[s]))),!aG s.1,!.lst (os.map D.int),!↥(j:Int)]:aP) [0]=↑[hA k (p++[s])]:=rfl;simp only[ak,aC,aB,ae,af,ac,ah,g,a]
 unfold qT xQ;rw[am ⟨rfl,rfl⟩,show kx 4 [hA k (p++[s])] [aG s.1,.lst (os.map D.int),↥(j:Int)]=[↑(.ro kH (hP k (p++[s]))),!aG s.1,!.lst (os.map D.int),!↥(j:Int)] from rfl];unfold Bl;rw[show(AK.ins false "House" jm)=kH from rfl];generalize aG s.1=SL at *;generalize os.map D.int=OS at *;generalize hP k (p++[s])=HP at *;match j,S with
 |0,_=>simp[cA,b] at * |1,_=>simp[cA,U] at * |2,_=>simp[cA,V] at * |3,_=>simp[cA,Y] at * |4,_=>simp[cA,Z] at *
variable{w:Str}
theorem O1(Y:s.1.length<=5)(h:cls s.1 os=↑c)(Z:wj c=↑w):yc [hA k (p++[s])] [aG s.1,.lst (os.map D.int),.str w]=↑(.bl true):=by
 have k1:iE c=↑(.tup [.str "refused",.str w]):=by unfold iE;rw[Z];rfl
 have a:=LY s.1 ∅;have b:jN (.tup [.str "refused",.str w]) (.tup [.str "refused",.str w])=↑(.bl false):=by
  show(if _/\_ then ↑(D.bl false) else none)=_;rw[am ⟨rfl,rfl⟩]
 have I:fP [↥5]=↑(bS 0 5):=qb 5 (by decide);obtain⟨e',h1,S,v5,v6,rfl⟩:=u4 (i:=4) (g:=Bm) (λ_ e=>∃S v5 v6,e=[↑(.ro kH (hP k (p++[s]))),!aG s.1,!.lst (os.map D.int),!.str w,S,v5,v6]) (bS 0 5)
  [↑(.ro kH (hP k (p++[s]))),!aG s.1,!.lst (os.map D.int),!.str w,none,none,none] ⟨none,none,none,rfl⟩ (by
  rintro j d e U ⟨S,v5,v6,rfl⟩;obtain⟨rfl,V⟩:=uv U;rw[ke];have f:=O0 (k:=k) (p:=p) j V Y h;have l:j2 qT [0] (ak (aJ (io pO (ak (aB 1) aC))) (ak (aJ (io qj (ak (aB 2) aC))) (ak (aB 4) aC))) [↑(.ro kH (hP k (p++[s]))),!aG s.1,!.lst (os.map D.int),!.str w,!↥(j:Int),!(.tup [.str "refused",.str ""]),v6]=↑(c,[↑(.ro kH (hP k (p++[s]))),!aG s.1,!.lst (os.map D.int),!.str w,!↥(j:Int),!(.tup [.str "refused",.str ""]),v6]):=by
   unfold j2;rw[am (show dW _ [0] from λj V=>by rw[dc.mp V];exact⟨_,rfl⟩)];have g:eD ([↑(Sl.ro kH (hP k (p++[s]))),!aG s.1,!.lst (os.map D.int),!.str w,!↥(j:Int),!(.tup [.str "refused",.str ""]),v6]:aP) [0]=↑[hA k (p++[s])]:=rfl;unfold aG at *;generalize (s.1.map λs=>D.lst (s.map sD))=SL at *;generalize os.map D.int=OS at *;simp only[ak,aC,aB,aJ,io,qj,a,ae,af,ac,ah,g,f]
  refine⟨[↑(.ro kH (hP k (p++[s]))),!aG s.1,!.lst (os.map D.int),!.str w,!↥(j:Int),!(.tup [.str "refused",.str w]),none],?_,_,_,_,rfl⟩;generalize aG s.1=SL at *;generalize os.map D.int=OS at *;generalize hP k (p++[s])=HP at *;simp only[Bm,aE,aH,iC,cA,aV,aM,l,k1,b,aI,aD,aW,ak,aC,fC,aB,ao,bq,show(0+1+1<=64)=True by simp,dm,bx,ff,ae,af,av,aw,ac,ah])
 unfold yc bL;rw[am ⟨rfl,rfl⟩,show kx 7 [hA k (p++[s])] [aG s.1,.lst (os.map D.int),.str w]=[↑(.ro kH (hP k (p++[s]))),!aG s.1,!.lst (os.map D.int),!.str w,none,none,none] from rfl];generalize aG s.1=SL at *;generalize os.map D.int=OS at *;generalize hP k (p++[s])=HP at *;generalize bS 0 5=R5 at *;simp only[Bo,aE,bY,aK,io,ak,aC,fC,I,h1,ac,ah]
theorem O2(c:n<=5)(z:Int):∃us:ik,us.length=5/\(∀a∈us,a<1\/(n:Int)<a)/\vJ [↥(n:Int),↥z]=↑(.lst (us.map D.int)):=by
 have Y:bF ↥z ↥2=↑↥(z % 2):=wt (by decide);have Z:cK ↥z ↥2=↑↥(z / 2):=y8 (by decide) (by decide);have I:fO ↥10 ↥30=↑↥1000000000000000000000000000000:=rfl;have S:fO ↥10 ↥12=↑↥1000000000000:=rfl;have U:bF ↥(z / 2) ↥1000000000000000000000000000000=↑↥(z / 2 % 1000000000000000000000000000000):=wt (by decide);have d:=jx (z / 2) (show(1000000000000000000000000000000:Int)≠0 by decide);have e:=jx z (show(2:Int)≠0 by decide);have g:=j1 z (show(0:Int)<2 by decide);generalize z / 2 % 1000000000000000000000000000000=y at *;obtain⟨f,e1,hf⟩:∃f:Int,cN ↥(1-2*(z % 2)) ↥(10+y)=↑↥f/\(f<1\/(n:Int)<f):=by
  have:z % 2=0\/z % 2=1:=by lia
  rcases this with h |h <;> rw[h]
  ·exact⟨(1-2*0)*(10+y),am (.inl (uu (by decide))),by lia⟩
  ·exact⟨(1-2*1)*(10+y),am (.inl (uu (by decide))),by lia⟩
 have b:cN ↥2 ↥(z % 2)=↑↥(2*(z % 2)):=am (.inl (uu (by decide)));refine⟨[0,-1,(n:Int)+1,1000000000000,f],rfl,λa V=>?_,?_⟩
 ·simp only[b6,List.not_mem_nil,or_false] at V
  rcases V with rfl |rfl |rfl |rfl |rfl <;> lia
 ·refine mf (e':=[!↥(n:Int),!↥z,!↥f]) rfl ?_
  show Bp [!↥(n:Int),!↥z,none]=_;simp only[Bp,aE,aH,aK,aD,gF,fC,aB,aJ,gi,ak,aC,Y,Z,I,S,U,e1,b,aZ,iq,dN,b9,dw,ao,bq,show(0+1+1+1+1+1<=64)=True by simp,dm,ae,af,av,aw,ac,ah]
def FX(h:∃a∈os,a<1\/(ss.length:Int)<a):cls ss os=↑("UnknownStack" : Str):=by
 unfold cls;rw[am h]
variable{ns:ic}{j q:Nat}
theorem O3(D:cT ss ns)(I:j<ss.length):cls ss ((ns.map λn:Nat=>(n:Int)).take q++((j:Int)+1)::(ns.map λn:Nat=>(n:Int)).drop q)=↑("EmptyStack" : Str):=by
 have e:((ns.map λn:Nat=>(n:Int)).take q++((j:Int)+1)::(ns.map λn:Nat=>(n:Int)).drop q)=(ns.take q++(j+1)::ns.drop q).map λn:Nat=>(n:Int):=by
  rw[cr,b9,qg,qh];rfl
 have U:((ns.take q++(j+1)::ns.drop q).map λn:Nat=>(n:Int)).map Int.toNat=ns.take q++(j+1)::ns.drop q:=by
  rw[gg];exact(jt λa _=>by simp).trans (List.map_id _)
 have S:ss[j]?=↑ss[j]:=bc I;unfold cls;rw[e,U,bw,am]
 ·refine⟨j,I,?_⟩
  have V:=D.cnt j ss[j] S;have ct:(ns.take q++(j+1)::ns.drop q).count (j+1)=ns.count (j+1)+1:=by
   rw[ml,o7]
   conv=>rhs;rw[<-List.take_append_drop q ns,ml]
   lia
  unfold aQ;rw[ct,cj,S,V];simp
  lia
 ·rintro⟨a,Y,h⟩
  obtain⟨b,hb,rfl⟩:=f7.mp Y;have:1<=b/\b<=ss.length:=by
   rcases dg.mp hb with hb |hb
   ·exact D.lo b (o6 hb)
   ·rcases b6.mp hb with rfl |hb
    ·lia
    ·exact D.lo b (List.mem_of_mem_drop hb)
  lia
variable{i:Nat}
def FY{c:hO}{x:Str}{y:Nat}(hi:HI n k p s)(h:cB s.1 k.length c=↑x)(I:wj x=↑w)(D:e[i]?=↑↑(.ag kH none (hP k (p++[s]))))(S:e[y]?=↑⇑(cD c))(U:e.set i ↑(.ag kH none (hP k (p++[s])))=e) :
  aV (cW (aI (d5 vz (ak (me rn [i] (ak (aB y) aC)) (ak (aW (ak (fC (.str "refused")) (ak (fC (.str w)) aC))) aC))))) (aK (fC (.bl false))) aM e=↑(.nx,e):=by
 have cl:=yw (m:=rn) (F:=ak (aB y) aC) (e:=e) (i:=i) (l:=none) (ps:=hP k (p++[s])) (ds:=[cD c]) D (by simp[ak,aC,S]) (Fz c (F3 hi h) I);rw[U] at cl;have V:=qK [.str "refused",.str w] (by simp[kL]) ⋯;simp only[aV,aM,cW,aI,d5,ak,aC,aW,fC,cl,V,ao,bq,show(0+1+1<=64)=True by simp,dm,ac,ah,qi,bx,ff]
variable{a:Int}{b:FS}{e':aP}
def O4{c:FT}{a:FS}(h:c e=↑(true,e')):aV c a b e=a e':=by
 simp[aV,h]
theorem FZ{X:ik}{z:Int}{g:FE}(hi:e[i]?=↑⇑(.lst (X.map D.int)))(S:e[j]?=↑⇑↥(q:Int))(U:g e=↑(.int z,e))(I:q<=X.length)(c:X.length<=1000) :
  aJ (bW (aJ (bW (aJ (fI (aB i) (fY) (fF (aB j)))) (aJ (gi (ak g (aC)))))) (aJ (fI (aB i) (fF (aB j)) (fY)))) e=↑(.lst ((X.take q++z::X.drop q).map D.int),e):=by
 have V:=Az (X.map D.int) q (by rw[ai];exact I);have Z:=pW (X.map D.int) q (by rw[ai];exact I);have a:cI (((X.map D.int).take q).length+(0+1)):=few (by rw[d8,ai];lia);have f2:cI (((X.map D.int).take q++[D.int z]).length+((X.map D.int).drop q).length):=few (by rw[ax,d8,fu,ai,jd];lia);have b:(X.take q++z::X.drop q).map D.int=(X.map D.int).take q++[D.int z]++(X.map D.int).drop q:=by
  rw[cr,b9,qg,qh,ek];rfl
 rw[b];generalize X.map D.int=Y at *;simp only[aJ,bW,fI,fY,fF,aB,gi,ak,aC,hi,S,U,V,Z,a,f2,ao,bq,show(0+1<=64)=True by simp,dm,ac,ah]
def O5(h:a<1\/(s.1.length:Int)<a)(P L:Int):cB s.1 k.length (.d (.put a P L))=↑("UnknownStack" : Str)/\cB s.1 k.length (.d (.tell a P L))=↑("UnknownStack" : Str)/\cB s.1 k.length (.d (.go a))=↑("UnknownStack" : Str):=by
 refine⟨?_,?_,?_⟩
 ·show fS s.1 k.length a P L=_
  unfold fS;rw[am h]
 ·show t3 s.1 k.length a P L=_
  unfold t3;rw[am h]
 ·show jA s.1 k.length a=_
  unfold jA;rw[am h]
theorem O6(I:j<s.1.length)(D:(s.1.getD j []).length=0)(P L:Int):cB s.1 k.length (.d (.tell ((j:Int)+1) P L))=↑("EmptyStack" : Str)/\cB s.1 k.length (.d (.go ((j:Int)+1)))=↑("EmptyStack" : Str):=by
 have e:((j:Int)+1).toNat-1=j:=by lia
 refine⟨?_,?_⟩
 ·show t3 s.1 k.length ((j:Int)+1) P L=_
  unfold t3;rw[bw ∅,e,am D]
 ·show jA s.1 k.length ((j:Int)+1)=_
  unfold jA;rw[bw ∅,e,am D]
variable{P L:Int}{v5 A B C:k8}
def O7{v6 v10:k8}{r:aP}(hi:HI n k p s)(V:a<1\/(n:Int)<a):∃D,vK (EL A B C k p s (v5::v6::⇑↥P::⇑↥L::⇑↥a::v10::r))=↑(.nx,EL A B C k p s (v5::v6::⇑↥P::⇑↥L::⇑↥a::D::r)):=by
 obtain⟨h1,h2,Y⟩:=O5 (k:=k) (s:=s) (a:=a) (by rw[hi.at.len];exact V) P L;have q:=λ(c:hO) (h:cB s.1 k.length c=↑("UnknownStack" : Str))=>FY (e:=EL A B C k p s (v5::v6::⇑↥P::⇑↥L::⇑↥a::⇑(cD c)::r)) (i:=3) (y:=10) (w:="unknown stack") hi h rfl rfl rfl rfl;have I:=q _ h1;have S:=q _ h2;have U:=q _ Y;refine⟨⇑(cD (.d (.go a))),?_⟩;rw[show cD (.d (.put a P L))=.tup [.str "put",↥a,↥P,↥L] from rfl] at I;rw[show cD (.d (.tell a P L))=.tup [.str "tell",↥a,↥P,↥L] from rfl] at S;rw[show cD (.d (.go a))=.tup [.str "go",↥a] from rfl] at U ⊢;unfold EL at *;generalize hP k (p++[s])=HP at *;generalize cR k p s=SP at *;simp only[vK,bY,cP,aJ,gi,aW,ak,aC,fC,aB,cF,FJ,I,S,U,ao,bq,show(0+1+1+1+1<=64)=True by simp,show(0+1+1+1<=64)=True by simp,show(0+1+1<=64)=True by simp,dm,ae,af,av,aw,ac,ah]
def qU{P L:Int}{v5 v6:k8}{r:aP}(hi:HI n k p s):∀(us:ik) (v9 v10:k8),(∀a∈us,a<1\/(n:Int)<a)->∃S I,cF 9 vK (us.map D.int) (EL A B C k p s (v5::v6::⇑↥P::⇑↥L::v9::v10::r))=↑(.nx,EL A B C k p s (v5::v6::⇑↥P::⇑↥L::S::I::r))
 | [],v9,v10,_=>⟨v9,v10,rfl⟩ |a::us,v9,v10,h=>by
   obtain⟨w,h1⟩:=O7 (A:=A) (B:=B) (C:=C) (P:=P) (L:=L) (v5:=v5) (v6:=v6) (v10:=v10) (r:=r) hi (h a bi);obtain⟨S,I,h2⟩:=qU (P:=P) (L:=L) (v5:=v5) (v6:=v6) (r:=r) hi us ⇑↥a w λb U=>h b (bg _ U);refine⟨S,I,?_⟩;rw[b9,cF];exact(congrArg (λz=>Option.bind z _) h1).trans h2
def Br{F:FE}(hi:HI n k p s)(h:cls s.1 os=↑c)(U:wj c=↑w)(I:e[3]?=↑↑(.ag kH none (hP k (p++[s]))))(V:e[6]?=↑⇑(aG s.1))(Y:F e=↑(.lst (os.map D.int),e)) :
  aV (cW (aI (iz yc [3] (ak (aB 6) (ak F (ak (fC (.str w)) aC)))))) (aK (fC (.bl false))) aM e=↑(.nx,e):=by
 have S:=Fi (m:=yc) (F:=ak (aB 6) (ak F (ak (fC (.str w)) aC))) (e:=e) (i:=3) (l:=none) (ps:=hP k (p++[s])) I (r:=([aG s.1,.lst (os.map D.int),.str w],e)) (by simp only[ak,aC,aB,fC,V,Y,ac,ah]) I;rw[show[((kH,hP k (p++[s])):Ag)]=[hA k (p++[s])] from rfl,O1 hi.l5 h U] at S;simp only[aV,aM,cW,aI,S,ah,ac,qi,bx,ff]
variable{cs:ik}
theorem O8{od:Int}{v9 v10 v15 v16:k8}(hi:HI n k p s)(r:cT s.1 ns)(Z:cs.length=44)(O:q<=ns.length)(Q:j<n)(R:od<1\/(n:Int)<od) :
  ∃a b f,nE (EL A ⇑(.lst (cs.map D.int)) C k p s [v5,!aG s.1,!↥P,!↥L,v9,v10,!(.lst ((ns.map λn:Nat=>(n:Int)).map D.int)),!↥(q:Int),!↥od,!↥(j:Int),v15,v16]) =
   ↑(.nx,EL A ⇑(.lst (cs.map D.int)) C k p s [v5,!aG s.1,!↥P,!↥L,v9,a,!(.lst ((ns.map λn:Nat=>(n:Int)).map D.int)),!↥(q:Int),!↥od,!↥(j:Int),b,f]):=by
 have sl:=hi.at.len;have l:=hi.at.few;have l5:=hi.l5;have T:=r.len;have u:=O3 (q:=q) r (j:=j) ∅;have nl:(ns.map λn:Nat=>(n:Int)).length=ns.length:=ai _;generalize (ns.map λn:Nat=>(n:Int))=W at *;obtain⟨I,eF⟩:∃I:ik,I=W.take q++((j:Int)+1)::W.drop q:=⟨_,rfl⟩;have fl:I.length=W.length+1:=by rw[eF,ax,ao,d8,fu];lia
 have U:bG (cs.map D.int) 41=↑(.int cs[41]):=mi (k:=41) D.int (by simp[Z]);have V:cK (.int cs[41]) ↥2060=↑↥(cs[41] / 2060):=y8 (by decide) (by decide);obtain⟨S,eq2,hq2⟩:∃S:Nat,cs[41] / 2060 % ((I.length:Int)+1)=(S:Int)/\S<=I.length:=by
  have h1:=jx (cs[41] / 2060) (show(I.length:Int)+1≠0 by lia);have h2:=j1 (cs[41] / 2060) (show(0:Int)<(I.length:Int)+1 by lia);exact⟨(cs[41] / 2060 % ((I.length:Int)+1)).toNat,by lia,by lia⟩
 have Y:bF ↥(cs[41] / 2060) ↥((I.length:Int)+1)=↑↥(S:Int):=by rw[<-eq2];exact wt ∅
 have v:(((I.map D.int).length:Nat):Int)=(I.length:Int):=by rw[ai]
 rw[<-eF] at u;have K:cls s.1 (I.take S++od::I.drop S)=↑("UnknownStack" : Str):=FX ⟨od,by simp,by lia⟩;obtain⟨BB,eB⟩:∃A:k8,A=⇑(.lst (cs.map D.int)):=⟨_,rfl⟩;rw[<-eB];have m:=FZ (e:=EL A BB C k p s [v5,!aG s.1,!↥P,!↥L,v9,v10,!.lst (W.map D.int),!↥(q:Int),!↥od,!↥(j:Int),v15,v16]) (i:=11) (j:=12) (X:=W) (q:=q) (z:=(j:Int)+1) (g:=aD iq (aB 14) [:1]) rfl rfl rfl ∅ ∅;rw[<-eF] at m;have s2:=Br (e:=EL A BB C k p s [v5,!aG s.1,!↥P,!↥L,v9,v10,!.lst (W.map D.int),!↥(q:Int),!↥od,!↥(j:Int),!.lst (I.map D.int),v16]) (F:=aB 15) (w:="empty stack") hi u rfl rfl rfl rfl;have M:=FZ (e:=EL A BB C k p s [v5,!aG s.1,!↥P,!↥L,v9,v10,!.lst (W.map D.int),!↥(q:Int),!↥od,!↥(j:Int),!.lst (I.map D.int),!↥(S:Int)]) (i:=15) (j:=16) (X:=I) (q:=S) (z:=od) (g:=aB 13) rfl rfl rfl hq2 ∅;have x:=Br (e:=EL A BB C k p s [v5,!aG s.1,!↥P,!↥L,v9,v10,!.lst (W.map D.int),!↥(q:Int),!↥od,!↥(j:Int),!.lst (I.map D.int),!↥(S:Int)]) (w:="unknown stack") hi K rfl rfl rfl M;obtain⟨t,g0⟩:∃t,s.1[j]?=↑t:=⟨_,bc ∅⟩;have gd:s.1.getD j []=t:=by rw[cj,g0];rfl
 have B:bG (s.1.map λs=>D.lst (s.map sD)) (j:Int)=↑(.lst (t.map sD)):=mi (λs:ll=>D.lst (s.map sD)) g0;have E:dO [.lst (t.map sD)]=↑↥(t.length:Int):=by simp
 by_cases N:t.length=0
 ·have o:decide ((t.length:Int)=0)=true:=l3 ∅
  obtain⟨h1,h2⟩:=O6 (k:=k) (s:=s) (j:=j) ∅ (by rw[gd];exact N) P L;have G:=λ(c:hO) (h:cB s.1 k.length c=↑("EmptyStack" : Str))=>FY (e:=EL A BB C k p s [v5,!aG s.1,!↥P,!↥L,v9,!cD c,!.lst (W.map D.int),!↥(q:Int),!↥od,!↥(j:Int),!.lst (I.map D.int),!↥(S:Int)]) (i:=3) (y:=10) (w:="empty stack") hi h rfl rfl rfl rfl;have H:=G _ h1;have J:=G _ h2;refine⟨⇑(cD (.d (.go ((j:Int)+1)))),!.lst (I.map D.int),!↥(S:Int),?_⟩;rw[show cD (.d (.tell ((j:Int)+1) P L))=.tup [.str "tell",↥((j:Int)+1),↥P,↥L] from rfl] at H;rw[show cD (.d (.go ((j:Int)+1)))=.tup [.str "go",↥((j:Int)+1)] from rfl] at J ⊢;unfold EL aG at *;generalize (s.1.map λs=>D.lst (s.map sD))=SL at *;generalize hP k (p++[s])=HP at *;generalize cR k p s=SP at *;generalize W.map D.int=WD at *;generalize I.map D.int=FD at *;generalize t.map sD=TD at *;subst eB;generalize cs.map D.int=CS at *;simp only[nE,aE,aH,m,s2,x,aD,aF,bP,jh,fC,aB,iq,U,V,v,Y,ae,af,av,aw,ac,ah];rw[O4 (by simp only[aI,aD,aF,bP,fC,aB,d5,ak,aC,bU,B,E,o,ae,af,ac,ah];rfl)];simp only[FK,bY,cP,aJ,gi,aW,ak,aC,aD,fC,aB,iq,cF,ao,bq,show(0+1+1+1+1<=64)=True by simp,show(0+1+1<=64)=True by simp,dm,H,J,ae,af,av,aw,ac,ah]
 ·have o:decide ((t.length:Int)=0)=false:=eg ∅
  refine⟨v10,!.lst (I.map D.int),!↥(S:Int),?_⟩;unfold EL aG at *;generalize (s.1.map λs=>D.lst (s.map sD))=SL at *;generalize hP k (p++[s])=HP at *;generalize cR k p s=SP at *;generalize W.map D.int=WD at *;generalize I.map D.int=FD at *;generalize t.map sD=TD at *;subst eB;generalize cs.map D.int=CS at *;simp only[nE,aE,aH,m,s2,x,aD,aF,bP,jh,fC,aB,iq,U,V,v,Y,ae,af,av,aw,ac,ah];simp only[aV,aI,aD,aF,bP,fC,aB,d5,ak,aC,bU,B,E,o,aM,ae,af,ac,ah,bx,ff]
def O9{a:FS}(h:a e=↑(.nx,e')):aE a b e=b e':=by
 simp[aE,h]
theorem OA(hi:HI n k p s)(h:e[3]?=↑↑(.ag kH none (hP k (p++[s]))))(h':e[4]?=↑↑(.ag .ls none (cR k p s))) :
  cZ false (d5 yb (ak (fK kH 3 (iz qB [3] aC)) (ak (aF 4 [:1]) aC))) e=↑(.bl true,e):=by
 have D:bG ((cR k p s).map lK) 1=↑(.lst (k.map dD)):=rfl;have I:=Nu k (by have:=hi.k60;lia);unfold cZ;simp only[d5,ak,aC,Np h,Nc,aF,bP,fC,Of h',D,I,ah,ac];rfl
def Bs{od:Int}{v9:k8}(hi:HI n k p s)(f:cT s.1 ns)(Y:cs.length=44)(l:q<=ns.length)(m:od<1\/(n:Int)<od)(v10:k8) :
  ∃I V S U,cF 14 nE (bS 0 n) (EL A ⇑(.lst (cs.map D.int)) C k p s [v5,!aG s.1,!↥P,!↥L,v9,v10,!(.lst ((ns.map λn:Nat=>(n:Int)).map D.int)),!↥(q:Int),!↥od,none,none,none]) =
   ↑(.nx,EL A ⇑(.lst (cs.map D.int)) C k p s [v5,!aG s.1,!↥P,!↥L,v9,I,!(.lst ((ns.map λn:Nat=>(n:Int)).map D.int)),!↥(q:Int),!↥od,V,S,U]):=by
 obtain⟨e',h1,I,V,S,U,rfl⟩:=u4 (i:=14) (g:=nE) (λ_ e=>∃I V S U,e=EL A ⇑(.lst (cs.map D.int)) C k p s [v5,!aG s.1,!↥P,!↥L,v9,I,!(.lst ((ns.map λn:Nat=>(n:Int)).map D.int)),!↥(q:Int),!↥od,V,S,U]) (bS 0 n) _ ⟨v10,none,none,none,rfl⟩ (by
  rintro j d e Z ⟨I,V,S,U,rfl⟩;obtain⟨rfl,o⟩:=uv Z;rw[ke];obtain⟨a,b,c,h⟩:=O8 (A:=A) (C:=C) (P:=P) (L:=L) (v5:=v5) (v9:=v9) (v10:=I) (v15:=S) (v16:=U) hi f Y l o m;exact⟨_,h,a,_,b,c,rfl⟩)
 exact⟨I,V,S,U,h1⟩
theorem good(ns:ik)(hn:ns.length<=63):FM [.lst (ns.map D.int)]=↑(.bl true):=by
 obtain⟨cs,S,hd⟩:=L5 ns 44 ∅;have hd:pH [.lst (ns.map D.int),↥44]=↑(.lst (cs.map D.int)):=hd;have a0:bG (cs.map D.int) 0=↑(.int cs[0]):=mi (k:=0) D.int (by simp[S]);have b:bG (cs.map D.int) 41=↑(.int cs[41]):=mi (k:=41) D.int (by simp[S]);have c:bG (cs.map D.int) 42=↑(.int cs[42]):=mi (k:=42) D.int (by simp[S]);have z:bG (cs.map D.int) 43=↑(.int cs[43]):=mi (k:=43) D.int (by simp[S]);obtain⟨n,U,hm⟩:=NZ cs[0];have G:=NY U;obtain⟨zs,hz,aa⟩:=Oe cs ↑1 ↑((41:Int)-cs[0] / 12 % 41);have H:=HI.new U;obtain⟨A,eA⟩:∃A:k8,A=⇑(.lst (ns.map D.int)):=⟨_,rfl⟩;obtain⟨B,eB⟩:∃A:k8,A=⇑(.lst (cs.map D.int)):=⟨_,rfl⟩;obtain⟨C,eC⟩:∃A:k8,A=⇑↥n:=⟨_,rfl⟩;obtain⟨k,p,s,v5,hi,ab,d⟩:=FC (A:=A) (B:=B) (C:=C) (r:=[none,none,none,none,none,none,none,none,none,none,none]) zs [] [] (eT n) none H;unfold vF at d;rw[Og] at d;have l5:=hi.l5;have J:=hi.at.few;obtain⟨us,ag,f,g⟩:=O2 U cs[42];have K:cK (.int cs[0]) ↥12=↑↥(cs[0] / 12):=y8 (by decide) (by decide);have mm:bF ↥(cs[0] / 12) ↥41=↑↥(cs[0] / 12 % 41):=wt (by decide);have m4:bF (.int cs[41]) ↥4=↑↥(cs[41] % 4):=wt (by decide);have d4:cK (.int cs[41]) ↥4=↑↥(cs[41] / 4):=y8 (by decide) (by decide);have j:bF ↥(cs[41] / 4) ↥103=↑↥(cs[41] / 4 % 103):=wt (by decide);have o:cK (.int cs[41]) ↥412=↑↥(cs[41] / 412):=y8 (by decide) (by decide);have m5:bF ↥(cs[41] / 412) ↥5=↑↥(cs[41] / 412 % 5):=wt (by decide);have d2:cK (.int cs[42]) ↥2=↑↥(cs[42] / 2):=y8 (by decide) (by decide);obtain⟨u,M,h9⟩:=qU (A:=A) (B:=B) (C:=C) (P:=cs[41] % 4) (L:=cs[41] / 4 % 103-1) (v5:=v5) (v6:=⇑(aG s.1)) (r:=[none,none,none,none,none,none]) hi us none none f;obtain⟨I,hw,N⟩:=M7 s.1 ∅ ∅ cs[43];have wl:=hw.len;obtain⟨q,eq,hq⟩:∃q:Nat,cs[42] / 2 % ((I.length:Int)+1)=(q:Int)/\q<=I.length:=by
  have h1:=jx (cs[42] / 2) (show(I.length:Int)+1≠0 by lia);have h2:=j1 (cs[42] / 2) (show(0:Int)<(I.length:Int)+1 by lia);exact⟨(cs[42] / 2 % ((I.length:Int)+1)).toNat,by lia,by lia⟩
 have mq:bF ↥(cs[42] / 2) ↥((I.length:Int)+1)=↑↥(q:Int):=by rw[<-eq];exact wt ∅
 have O:(((iD I).length:Nat):Int)=(I.length:Int):=by unfold iD;rw[ai]
 obtain⟨od,hod,aod⟩:∃od:Int,(od<1\/(n:Int)<od)/\cS (.lst (us.map D.int)) ↥(cs[41] / 412 % 5)=↑↥od:=by
  have h1:=jx (cs[41] / 412) (show(5:Int)≠0 by decide);have h2:=j1 (cs[41] / 412) (show(0:Int)<5 by decide);obtain⟨r,er⟩:∃r:Nat,cs[41] / 412 % 5=(r:Int):=⟨(cs[41] / 412 % 5).toNat,by lia⟩;have hr:r<us.length:=by lia
  refine⟨us[r],f _ (ig hr),?_⟩;rw[er];exact mi D.int (bc hr)
 have ei:iD I=(I.map λn:Nat=>(n:Int)).map D.int:=by
  unfold iD;rw[gg];rfl
 obtain⟨V,Y,Z,a,v⟩:=Bs (A:=A) (C:=C) (P:=cs[41] % 4) (L:=cs[41] / 4 % 103-1) (v5:=v5) (v9:=u) hi hw S hq hod M;rw[<-ei,<-eB] at v;have Q:=qb n ∅;have E:aP:=[];have f1:cI ((iD I).length+(0+1)):=few ∅;have x:=Br (e:=EL A B C k p s [v5,!aG s.1,!↥(cs[41] % 4),!↥(cs[41] / 4 % 103-1),u,V,!.lst (iD I),!↥(q:Int),!↥od,Y,Z,a]) (os:=(I.map λn:Nat=>(n:Int))++[od]) (F:=aJ (bW (aB 11) (aJ (gi (ak (aB 13) aC))))) (w:="unknown stack") hi (FX ⟨od,by simp,by rw[hi.at.len];exact hod⟩) rfl rfl rfl (by
  rw[cr,<-ei];simp only[EL,aJ,bW,aB,gi,ak,aC,f1,ao,bq,show(0+1<=64)=True by simp,dm,ae,af,ac,ah,b9,dw])
 have y:=OA (e:=EL A B C k p s [v5,!aG s.1,!↥(cs[41] % 4),!↥(cs[41] / 4 % 103-1),u,V,!.lst (iD I),!↥(q:Int),!↥od,Y,Z,a]) hi rfl rfl;have sq:=Nq (m:=qC) (e:=EL A B C k p s [v5,!aG s.1,!↥(cs[41] % 4),!↥(cs[41] / 4 % 103-1),u,V,!.lst (iD I),!↥(q:Int),!↥od,Y,Z,a]) (i:=3) (l:=none) (k:=k) (p:=p++[s]) rfl;rw[Nd (k:=k) (p:=p) (s:=s) ∅,ah] at sq;have R:=LZ s.1 ∅ λt h=>by have:=hi.r14 t h;lia
 have d0:gU 4 0 (EL A B C k p s [v5,none,none,none,none,none,none,none,none,none,none,none])=↑(aG s.1,EL A B C k p s [v5,none,none,none,none,none,none,none,none,none,none,none]):=rfl;have mk:=No (n:=n) U (F:=ak (aB 2) aC) (e:=[A,B,C,none,none,none,none,none,none,none,none,none,none,none,none,none,none]) (by rw[eC];rfl);refine mf (e':=EL A B C k p s [v5,!aG s.1,!↥(cs[41] % 4),!↥(cs[41] / 4 % 103-1),u,V,!.lst (iD I),!↥(q:Int),!↥od,Y,Z,a]) rfl ?_;rw[show ki 17 [D.lst (ns.map D.int)]=[!.lst (ns.map D.int),none,none,none,none,none,none,none,none,none,none,none,none,none,none,none,none] from rfl];unfold FL;rw[show(AK.ins false "House" jm)=kH from rfl];generalize T:aE (aH 11 (aJ (io tU (ak (aB 6) (ak (aF 1 [:43]) (aC)))))) _=T1;generalize W:FH=b0 at *;rw[show aV (cW (aI (me vq [3,4] (ak (d5 nt (ak (aB 5) (ak (gU 4 0) aC))) aC)))) (aK (fC (.bl false))) aM=b0 from W] at d;unfold EL at *;rw[lj] at d;subst eA eB eC;generalize aG s.1=SL at *;generalize hP k (p++[s])=HP at *;generalize cR k p s=SP at *;generalize hP [] [eT n]=HP0 at *;generalize cR [] [] (eT n)=SP0 at *;generalize iD I=WD at *;generalize us.map D.int=US at *;generalize ns.map D.int=NS at *;generalize cs.map D.int=CS at *;generalize zs.map D.int=ZS at *;generalize bS 0 n=RN at *;simp only[aE,aH,pu,bY,cP,aJ,fI,fF,d5,sX,ak,aC,aB,fC,aD,aF,bP,aZ,hd,a0,hm,mk,G,K,mm,hz,d,d0,b,c,m4,d4,j,g,h9,ae,af,aw,av,ac,ah];rw[<-T];generalize X:aE (aV _ _ _) _=T2;simp only[aE,aH,bY,aJ,d5,io,ak,aC,aB,fC,aD,aF,bP,jh,iq,b,c,z,N,d2,O,mq,g,o,m5,aod,Q,v,ae,af,aw,av,ac,ah];rw[<-X,O9 x];simp only[aK,xo,d5,ak,aC,aB,sq,R,y,ae,af,ac,ah]
end SQ
end
open PySem PySem.W PyProof.Rows
open L2 (us1 us2 us3 us4 us5)
theorem PySem.Challenge.cw_rotstacks_k41_whole_unknown_ahead_of_emp_holds : PySem.Challenge.rw_rotstacks_k41_whole_unknown_ahead_of_emp.Holds := by
 refine headO ?_
 k_fill
 refine L2.walkD (k:=11) (s:="_law_script") (l:=PySem.Challenge.rw_rotstacks_k41_whole_unknown_ahead_of_emp) ⟨rfl,by decide,by decide⟩ rfl rfl (λw h Y=>PySem.W.kIn_of Y) ?F;case F =>
  intro w mg fa h KX G hmg;refine' L2.law_mk KX G hmg ?a ?l ?c ?k ?b (SQ.ok_all _ _ _ _ _ _ _ _ _ _ _ _ _ _ _ _ _ _ _ _ _ _ _ _ _ _ _ _ _ _ _ _ _ _ _ _ _ _ _ _ _ _ _ _ _ _ _ _ _ _ _ _ _ _ _ _ _ _ _ _ _ _ _ _ _ _ _ _ _ _ _ _ _ _ _ _ _ _ _ _ _ _ _ _ _ ?hhC _ _ _ _ _ _ _ _ _ _ _ _ _ _ _ _ _ _ _ _ _ _ _ _ _ _ _ _ _ _ _ _ _ _ _ _ _) SQ.good
  (case a=>k_is)
  (case l=>k_is)
  (case c=>k_is)
  (case k=>k_is)
  (case b=>exact λv=>rfl)
  (case hhC=>unfold L2.Cl;k_is)
  all_goals first | (refine' L2.def_mk (by assumption) (by assumption) ?a ?l ?c ?k ?b;(case a=>k_is);(case l=>k_is);(case c=>k_is);(case k=>k_is);(case b=>first |exact us1 λ_=>rfl |exact us2 λ_ _=>rfl |exact us3 λ_ _ _=>rfl |exact us4 λ_ _ _ _=>rfl |exact us5 λ_ _ _ _ _=>rfl)) | (refine' L2.mef_mk ?a ?l ?c ?k ?i ?b;(case a=>k_is);(case l=>k_is);(case c=>k_is);(case k=>k_is);(case i=>k_is);(case b=>first |exact us1 λ_=>rfl |exact us2 λ_ _=>rfl |exact us3 λ_ _ _=>rfl |exact us4 λ_ _ _ _=>rfl |exact us5 λ_ _ _ _ _=>rfl)) |exact⟨by k_is,by k_is,by k_is,by k_is⟩ |exact PySem.W.mg_none_of KX G (by k_is) |exact mw KX G (by k_is) | (refine' L2.exc_mk KX G ?a ?b (by decide +kernel);(case a=>k_is);(case b=>k_exc)) | (refine' L2.con_mk KX G ?a;(case a=>k_is)) |exact L2.kf_mk KX G (by kernel_rfl) |k_is

