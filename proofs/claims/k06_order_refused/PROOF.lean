import PyProof.Rows.All
import Wide.All
import OpenK.AllK
import Wide.FinOn
import Lean
import PyProof.EqAt
import PyProof.EqKinds
import PyProof.TupleCall
import PyProof.Draws
import PyProof.ZipIter
import PyProof.EnumMake
import PyProof.AttrMissHeap
import KE.KDictOf
import PyProof.Rows.SeqMore2
import PyProof.Rows.SortWalk
import KE.KRevIter
import KE.KTryMore
import PyProof.RulesAs
import PyProof.NsDelKeeps
import KE.KIsAll
import PyProof.ExcArgs
import PySem.Challenge.RW_rotstacks_k06_order_refused
set_option Elab.async false
set_option linter.all false
set_option maxRecDepth 100000
set_option compiler.extract_closed false
set_option bootstrap.genMatcherCode false
local macro_rules | `(↑$t)=>`(some $t)
local macro_rules | `(⇑$t)=>`(some (.sh $t))
local macro_rules | `(↥$t)=>`(.int $t)
local macro_rules | `(⋯)=>`(by simp)
local macro_rules | `(∅)=>`(by lia)
theorem FF(h:True:=by rfl):True:=h
local macro_rules | `(‹$t›)=>`(autoParam $t FF._auto_1)
local macro_rules | `(command|@[simp] def $i:declId $s:optDeclSig $v:declVal)=>`(command|@[simp] noncomputable def $i:declId $s:optDeclSig $v:declVal)
local macro_rules | `(command|def $i:declId $s:optDeclSig $v:declVal)=>`(command|noncomputable def $i:declId $s:optDeclSig $v:declVal)
set_option maxHeartbeats 0
open Option renaming bind_some->ae,map_some->aj,map_none->fx
open List renaming getElem?_cons_zero->af,getElem?_cons_succ->ah,length_map->ai,length_append->ak,set_cons_zero->ao,getElem?_eq_getElem->aq,set_cons_succ->au,getD_eq_getElem?_getD->aw,mem_cons_of_mem->ay,length_cons->bf,getElem?_append_left->bg,mem_cons_self->bi,getElem?_map->bj,mem_of_getElem?->bn,map_cons->bq,size_toArray->b8,mem_append_right->cg,length_nil->ci,getElem?_eq_none->cq,getElem?_append_right->cw,append_assoc->cx,append_nil->c8,flatten_cons->de,lookup_cons->dh,map_nil->di,map_map->dq,getElem?_set_ne->dy,length_singleton->d5,length_set->d7,mem_append_left->d8,sublist_flatten_of_mem->em,ext_getElem?->eo,length_drop->e8,getElem?_set_self->fj,flatten_append->fm,length_take->fo,sum_cons->gc,sum_append->gf,range_succ->gg,getElem_mem->gk,singleton_append->gm,length_replicate->gn,filter_append->im,drop_eq_getElem_cons->iu,getElem?_range->i8,take_append_of_le_length->jd,zip_cons_cons->je,take_of_length_le->jf,length_range->jm,getElem?_set->jo,getElem?_zipIdx->ju,replicate_succ->jw,map_congr_left->jx,length_reverse->jy,length_flatten->jz,nil_append->j2,find?_cons->j3,take_succ_eq_append_getElem->km,map_set->kq,takeWhile_append_dropWhile->ku,cons_append->lg,of_mem_zip->lm,getElem_of_mem->lr,filterMap_cons->lu,getElem?_concat_length->lz,takeWhile_sublist->om,take_append_drop->pi,length_filter_le->pj,eq_nil_or_concat->pk,dropLast_eq_take->pq,concat_eq_append->pv,length_dropLast->qg,map_inj_right->rl,sum_nil->t5,count_append->t9,eraseIdxIfInBounds_toArray->uo,map_snd_zip->ve,map_reverse->vf,drop_length->vg,length_zip->ww,count_cons->wx,take_left->yw
open PySem.Heap renaming get?_push_of_some->av,lt_size->bw,get?_push_size->cj,get?_update_other->db,get?_update_self->gz,size_push->jk
open PySem renaming wpAny_bind->az,wpAny_pure->dg,mem_of_lookup->fz,sizeLine_eq->ie,wpAny_mono->iz,wpAny_Call_Name_kw->i4,lookup_relabel_local->i9,wpAny_holding->jc,codeAny_mono->jp,wpAny_passesOwn->jq,wpAny_field->kx,wpAny_newObj_type->li,codeAny_call_builtin->l7,wpAny_execs_nil->mj,wpAny_call->nk,call_meets->nr,wpAny_truthy_bool->o5,wpAny_pyIter_list->o6,wpAny_comprehension_free->ph,codeAny_builtin->qw,wpAny_newFunctionEnv->tw,wpAny_standAt->vy,wpAny_pyIter_enum->yu
open Nat renaming lt_of_lt_of_le->bz,le_refl->b6,ne_of_lt->ce,le_trans->cy,lt_succ_self->f8,zero_le->f9,lt_irrefl->gv,lt_succ_of_lt->h9,le_of_not_lt->ja,ne_of_gt->kj,le_antisymm->lj,zero_add->lw,le_of_lt->ly,lt_of_le_of_lt->l9,lt_of_succ_le->mr,le_succ->mv,sub_succ_lt_self->qe,pow_le_pow_right->qf,lt_trans->t0,le_succ_of_le->t3
open Bool renaming false_ne_true->cz,false_eq_true->du,and_eq_true->fq,not_eq_true'->mw,eq_iff_iff->o7
open Int renaming toNat_natCast->ft,emod_lt_of_pos->gi,emod_nonneg->ia,zero_add->i5,mul_le_mul_of_nonneg_right->jb,mul_le_mul_of_nonneg_left->vz,mul_add->wb,add_mul->wc,mul_lt_mul_of_pos_right->yc,lt_of_mul_lt_mul_right->yx,le_of_mul_le_mul_right->yy
open PySem.W renaming kia_one->fu,callWith_K->j5,mg_of->m7,cellsFrom_some->oj,plainGet_of->qo,kitx_list->tz
open PySem.F renaming plainAttrs_list->f7,type_list_append->m8,slot_list_append->nc
def am:=@List.getElem?_eq_some_iff
def ax:=@if_pos
def bh:=@List.map_append
def cb:=@if_neg
def cf:=@List.mem_cons
def cr:=@Option.bind_eq_some_iff
def c7:=@List.nodup_cons
def dc:=@List.mem_append
def dw:=@decide_eq_false
def dz:=@List.mem_map
def d6:=@if_true
def eh:=@List.mem_singleton
def fb:=@Option.map_eq_some_iff
def ff:=@List.mem_range
def fy:=@List.mem_flatten
def gh:=@List.pairwise_cons
def gl:=@List.all_eq_true
def ig:=@if_false
def il:=@decide_eq_true
def i7:=@List.length_pos_iff
def ji:=@List.mem_filter
def jl:=@decide_eq_true_eq
def jt:=@List.pairwise_append
def ko:=@List.nodup_append
def lb:=@List.perm_middle
def l8:=@beq_iff_eq
def ma:=@Array.getElem?_eq_some_iff
def nh:=@Option.isSome_iff_exists
def nv:=@beq_self_eq_true
def rj:=@List.mem_filterMap
def tx:=@eq_true
def vd:=@List.mem_reverse
def yv:=@PySem.F.excBase_ValueError
abbrev gs:=List PySem.Str
abbrev gu:=List PySem.Value
abbrev gx:=Option PySem.Value
abbrev gy:=List PySem.Addr
abbrev g7:=List Nat
abbrev g8:=List Int
abbrev g9:=List PySem.Env
abbrev h6:=List PySem.Expr
abbrev h7:=Option PySem.Str
abbrev h8:=Option Int
abbrev ic:=PySem.W.Frag
abbrev ii:=List (PySem.Addr×PySem.Obj)
abbrev ik:=Array PySem.Value
def b9:=@Option.some.inj
def f6:=@PyProof.Rows.callWith_type1
def ky:=@List.Perm.append_left
def lx:=@Nat.succ.inj
def qp:=@Array.length_toList
def ua:=@List.Sublist.refl
local macro_rules | `(command|example:=[$n:num,*])=>return Lean.mkNullNode (←n.getElems.mapM λx=>`(command|def $(Lean.mkIdent (.mkSimple s!"tw{x.getNat}")):ident:=0))
namespace PySem.W.Fast
example:=[15322368539271036669,16532565388948089689,13184622150755146257,15359066029296091914,12228147544654841872,5983847421345645524,390746492956994619,5721976631286687531,8858794619932646265,7803279730508470376,14726039395708169042,11257016545637818783,4820894714139109015,10533599864970498892,17814219459025534607,2568920784801229785,8377269827167821243,2137295140595160997,2903587536570550830,11426443043654593942,10063708139341080091,283888789339259811,14620615850239007432,11695338289939695011,2310152115407694317,12264938177008825913,8221379785114272625,1024519886807242658,10150583710244575269,1030786325826500318,13774891425750927617,207844607496620087,13829647151781561520,5952162250928874895,9891321043359845860,12512955897309937402,3599352512664547791,9407546540072142627,13613329712079379203,1345793373164641390,10744851713941782746,6587007149042686835,10121377862272130278,3293404830325504663,11276991364880623187,12271837024212840064,2455845457240328603,7556450903620949716,4687459795218132417,15974327944981590682,5034716454303145026,5106441590265517144,6575327488482023919,8672185609985027439,7149933324830417755,4580958863683113643,9861558533797506370,5598528202930427401,14573953567509026023,3823070681319032280,7951472646213758859,210044324623842073,14321320524742165127,4034797779667044739,3940656549514326351,2043501010429613985,5638072327206742917,2686233890626738665,6490407223968664275,2991398781726216151,9973627246163530600,6239945339599895091,14790858793299721804,10959613180006933657,9278190766790203136,17388220926716677784,2375006567970996351,7319031757845495107,8567998345255177908,10843531812203080730,7101557838441739412,9587186042336116289,9509332782846596327,15178129359280702113,13026136331304254567,713925798845973743,11457838680292950747,10330581090520975216,17806559798037380195,18386885767467486818,13858130960292467990,15803686785222356702,7259224906758229625,2049765247624823710,15552618252400785101,8287477372257394460,5317498474899054006,1592825966979909660,3805822162775641158,14196151101740859672,6817870253097453358,2415593063302787039,773837769077973527,8447859378991008473,8936502833500920895,13934532566174715844,1042730745191015830,10879388595287842575,8168842266489454260,5947341320043252116,13216005959699228206,14362189368304933659,12947299061229459072,15711869671402154468,14072604438232420825,16010320434224640865,10230110147958061854,8684910251999183264,14845087081150203729,8046396776376872931,511964816478924817,161789380018545185,3653488805216411198,5685583080274577854,2388936564005763016,2824953636588753854,18251893030405360759,6673929085512987817,17715355151536627880,7068168932148428858,2196322854640163440,14445418872937896079,8860451591181354368,8528296176800286927,6332842604250591561,13111393704196124666,3582978304103213920,4872185083630023082,7027161504191823226,10462606234668850954,11914615696464047931,3587737807500910358,12787879425846906538,13659396781174467188,16482829586814140525,9832110386767757957,1520255901581724474,15225300591409608309,4432724790468297698,6304074034095042606,10061068533373863766,5051928251995058599,15182589722207170881,10150564033475805507,8334637872655713847,15312604883864658121,17436130570902122954,13945133173953209716,7083750166878692056,7079707947466958888,700388651757566146,14568005782239985718,10507715511629606570,2071606587056475718,4895425382642465790,10064278401438594924,58109462115370533,12820195605933434369,6837075614334933056,13449174799738682798,5898611799629526299,8226255479208371499,17741644304281435960,8890728187195941351,18167784821210252591,17809448620705087777,5539107422793943528,17731801680971310,6050367820228774611,17194835738226993535,11054019970778517585,13121867851967981337,17814047037683550049,4451723133488617876,3728144501723514689,1595747642052662668,4305065240375502561,1304929338181100159,15346517549140329626,12576081000109285875,17081379799441678081,12978444730273849538,953458651356121817,8728325574167029789,1622557476127942605,11344943184745296118,12654239967497380371,7881732657216084209,6598374200367700839,7772875871448657254,379934576109449449,10850915588502522953,17808692385677522963,5583691673590225428,2702439272556505636,16835878378154914824,17843410382910287299,11334331014071413509,15951587067062996801,587545333870980003,3779230181079493466,4050732226601590682,9301344737321345939,2325606590763678580,14826912328538242741,15548075588772323972,10188978387758169283,427235402509281511,8694474041912759065,15594794917597159775,7180586073690095120,4268622498170725944,6807043632278035834,10587343237000749088,9805812323308449676,1672570849053800847,5562189002064086367,10276145494591126561,13617027138147984029,16521801807381742905,16873000933375481214,9825519608591523203,5123867004574809352,854140536876979112,1723659334660492738,10990553094901904019,11369576313543810532,3609704435018269715,12779886806967036166,14405675546686497759,2539125382721200481,11114441641902549053,18230195313121980701,17698045181106920911,7402376978453233549,5652481992068153864]
end PySem.W.Fast
open_top headO for PySem.Challenge.rw_rotstacks_k06_order_refused
noncomputable section
namespace L2
open PySem PySem.Spec PyProof.Rows
abbrev dI:=Sum Int Str
def lH:dI->Value->Bool
 | .inl k,v=>Value.isInt k v | .inr x,v=>Value.isStrOf x v
def uF(w:World):dI->Int
 | .inl k=>hashInt k | .inr x=>hashStr w x
def x8:∀ {k:dI} {v:Value},lH k v=true->(∃i t,k=Sum.inl i/\v=Value.int i t)\/(∃x t,k=Sum.inr x/\v=Value.str x t)
 | .inl i,v,h=>by
   obtain⟨t,e⟩:=Value.isInt_shape (k:=i) (v:=v) h;exact .inl ⟨i,t,rfl,e⟩
 | .inr x,v,h=>by
   obtain⟨t,e⟩:=Value.isStrOf_shape (x:=x) (v:=v) h;exact .inr ⟨x,t,rfl,e⟩
def FH(i:Int)(t:Tok):lH (.inl i) (.int i t)=true:=by simp[lH,Value.isInt]
def FJ(x:Str)(t:Tok):lH (.inr x) (.str x t)=true:=by simp[lH,Value.isStrOf]
def FK(a b:Int):decide ((Sum.inl a:dI)=Sum.inl b)=(a==b):=by
 by_cases e:a=b
 ·subst e;simp
 ·have h:¬(Sum.inl a:dI)=Sum.inl b:=λq=>e (Sum.inl.inj q)
  rw[dw h];exact(beq_eq_false_iff_ne.mpr e).symm
def FL(a b:Str):decide ((Sum.inr a:dI)=Sum.inr b)=decide (a=b):=by
 by_cases e:a=b
 ·subst e;simp
 ·have h:¬(Sum.inr a:dI)=Sum.inr b:=λq=>e (Sum.inr.inj q)
  rw[dw h,dw e]
def FM(a:Int)(b:Str):decide ((Sum.inl a:dI)=Sum.inr b)=false:=dw (λq=>nomatch q)
def FN(a:Str)(b:Int):decide ((Sum.inr a:dI)=Sum.inl b)=false:=dw (λq=>nomatch q)
def qu(prog:Program)(w:World):PySem.KeyKind prog w dI where
 is:=lH
 hash:=uF w
 inj:=λv a b U I=>by
  rcases x8 U with⟨i,t,rfl,rfl⟩ | ⟨x,t,rfl,rfl⟩
  ·rcases x8 I with⟨j,u,rfl,e⟩ | ⟨y,u,rfl,e⟩
   ·injection e with e1 _;rw[e1]
   ·exact nomatch e
  ·rcases x8 I with⟨j,u,rfl,e⟩ | ⟨y,u,rfl,e⟩
   ·exact nomatch e
   ·injection e with e1 _;rw[e1]
 byValue:=λk v h=>by
  rcases x8 h with⟨i,t,rfl,rfl⟩ | ⟨x,t,rfl,rfl⟩ <;> rfl
 pyHash:=λD h=>by
  rcases x8 D with⟨i,t,rfl,rfl⟩ | ⟨x,t,rfl,rfl⟩
  ·exact wpAny_pyHash_int h
  ·exact wpAny_pyHash_str h
 eqBool:=λV D h=>by
  rcases x8 V with⟨i,t,rfl,rfl⟩ | ⟨x,t,rfl,rfl⟩
  ·rcases x8 D with⟨j,u,rfl,rfl⟩ | ⟨y,u,rfl,rfl⟩
   ·rw[FK] at h;exact wpAny_eqBool_int h
   ·rw[FM] at h;exact SeqAt.EqAt.int_str i t y u _ _ _ _ h
  ·rcases x8 D with⟨j,u,rfl,rfl⟩ | ⟨y,u,rfl,rfl⟩
   ·rw[FN] at h;exact SeqAt.EqAt.str_int x t j u _ _ _ _ h
   ·rw[FL] at h;exact wpAny_eqBool_str h
 «strs»:=λk x t v h=>by
  rcases x8 h with⟨i,u,rfl,e⟩ | ⟨y,u,rfl,e⟩
  ·exact nomatch e
  ·injection e with e1 _
   subst e1;cases v <;> rfl
def AX(prog:Program)(w:World)(i:Int)(t:Tok):(qu prog w).is (.inl i) (.int i t)=true:=FH i t
def FQ(prog:Program)(w:World)(x:Str)(t:Tok):(qu prog w).is (.inr x) (.str x t)=true:=FJ x t
inductive V where
 |non |bl (b:Bool) |int (i:Int) |str (x:Str) |byt (b:Array UInt8) |flt (b:UInt64) |ref (a:Addr) |ty (n:String)
 deriving DecidableEq
abbrev ip:=List V
def RelV:V->Value->Prop
 | .non,u=>u=Value.none | .bl b,u=>u=Value.bool b | .int i,u=>∃t,u=Value.int i t
 | .str x,u=>∃t,u=Value.str x t | .byt b,u=>∃t,u=Value.bytes b t | .flt b,u=>∃t,u=Value.float b t | .ref a,u=>u=Value.ref a | .ty n,u=>u=Value.type n
abbrev aO:ip->gu->Prop:=Paired RelV
def aO.length{xs:ip}{us:gu}(r:aO xs us):xs.length=us.length:=Paired.length r
def aO.get:∀ {xs:ip} {us:gu} {i:Nat} {x:V},aO xs us->xs[i]?=↑x->∃u,us[i]?=↑u/\RelV x u
 |_,_,_,_,.nil,e=>by simp at e |_,_,0,_,.cons r _,e=>by simp at e;subst e;exact⟨_,rfl,r⟩ |_,_,i+1,x,.cons _ t,e=>by
   obtain⟨u,h1,h2⟩:=aO.get (i:=i) (x:=x) t (by simpa using e);exact⟨u,by simpa using h1,h2⟩
def aO.set{x:V}{u:Value}(r:RelV x u):∀ {xs:ip} {us:gu} (i:Nat),aO xs us->aO (xs.set i x) (us.set i u)
 |_,_,_,.nil=>.nil |_,_,0,.cons _ t=>.cons r t |_,_,i+1,.cons q t=>.cons q (aO.set r i t)
variable{xs ys:ip}{us:gu}
def aO.append{ws:gu}(h:aO xs us)(s:aO ys ws):aO (xs++ys) (us++ws):=by
 induction h with
 |nil=>exact s |cons r _ q=>exact .cons r q
def aO.take:∀ {xs:ip} {us:gu} (n:Nat),aO xs us->aO (xs.take n) (us.take n)
 |_,_,0,_=>.nil |_,_,_+1,.nil=>.nil |_,_,n+1,.cons r t=>.cons r (aO.take n t)
def aO.drop:∀ {xs:ip} {us:gu} (n:Nat),aO xs us->aO (xs.drop n) (us.drop n)
 |_,_,0,r=>r |_,_,_+1,.nil=>.nil |_,_,n+1,.cons _ t=>aO.drop n t
def eD:Option V->gx->Prop
 |some v,↑u=>RelV v u |none,none=>True |_,_=>False
def KV{κ:Type}:List (κ×V)->List (κ×Value)->Prop:=Paired λ(p:κ×V) (q:κ×Value)=>p.1=q.1/\RelV p.2 q.2
def kV:dI->V
 | .inl i=>.int i
 | .inr x=>.str x
inductive HO where
 |lst (xs:ip)
 |tup (xs:ip)
 |dK (kvs:List (dI×V)) |dT (kvs:List (List dI×V))
 |set (S:Int->Bool) (n:Nat)
 |ins (C dx:Addr) (fs:List (Str×V))
 |own (x:Addr)
 |xd (fs:List (Str×V))
 |met (f x:Addr)
 |rng (lo hi:Int)
 |frz (o:Obj) (u:HO)
 |tbl (ps:ik)
 |ext (φ:Heap->Prop)
abbrev Hp:=Addr->Option HO
def a_(H:Hp)(a:Addr)(o:HO):Hp:=λb=>if b=a then ↑o else H b
variable{H:Hp}{a:Addr}{o:HO}
def og:a_ H a o a=↑o:=by unfold a_;rw[ax rfl]
variable{b:Addr}
def jh(h:b≠a):a_ H a o b=H b:=by unfold a_;rw[cb h]
def rh(h:H a=↑o)(h':H b=none):a≠b:=by
 intro e;subst e;rw[h] at h';cases h'
section
variable (P:Program) (w:World)
def bR(H:Hp)(h:Heap)(a:Addr):HO->Prop
 | .lst xs=>xs.length<=sizeLine/\∃(its:gu) (n:Nat),aO xs its/\h.get? a=some { cls:=.type "list",data:=.seq its.toArray n } | .tup xs=>xs.length<=sizeLine/\∃its:gu,aO xs its/\IsTup h a its.toArray | .dK kvs=>kvs.length<=sizeLine/\(a==sysModules)=false/\∃vs,KV kvs vs/\h.DictOf (qu P w) a vs | .dT kvs=>kvs.length<=sizeLine/\(a==sysModules)=false/\∃xs:List (List dI×Addr×Value),
    Paired (λ(p:List dI×V) (q:List dI×Addr×Value)=>p.1=q.1/\H q.2.1=↑(.tup (p.1.map kV))/\RelV p.2 q.2.2) kvs xs /\
    ∃o es D,h.get? a=↑o/\o.ExactDict/\o.data=.dict es D/\es.toList=xs.map (entryOfKey (tupleKind (qu P w)))/\(xs.map (·.1)).Nodup
 | .set S n=>h.SetOf (intKind P w) a S n | .ins C dx fs=>H dx=↑(.own a)/\fs.length<=1000/\dx≠a/\h.get? a=↑(PySem.W.instObj C dx) /\
    ∃mA,h.Ns1 dx mA/\(∀f,eD (fs.lookup f) (mA f))/\PySem.Within mA (fs.map (·.1))
 | .own _=>∃o,h.get? a=↑o | .xd fs=>∃mA,h.Ns1 a mA/\∀f,eD (fs.lookup f) (mA f) | .rng lo hi=>∃t u v,h.get? a=some { cls:=.type "range",data:=.fields #[.int lo t,.int hi u,.int 1 v] } | .frz o u=>h.get? a=↑o/\bR H h a u | .tbl ps=>h.get? a=some { cls:=.none,data:=.fields ps } | .met f x=>h.get? a=↑(PySem.W.methodObj (.ref f) (.ref x)) | .ext φ=>φ h/\(∃o,h.get? a=↑o)/\∀h1 h2:Heap,φ h1->(∀o,h1.get? a=↑o->h2.get? a=↑o)->φ h2
def eJ(H:Hp)(h:Heap):Prop:=∀a o,H a=↑o->bR P w H h a o
end
variable{P:Program}{w:World}{h:Heap}
def bR.lt(x:bR P w H h a o):a<h.objs.size:=by
 cases o with
 |lst xs=>obtain⟨_,_,_,_,e⟩:=x;exact bw e |tup xs=>obtain⟨_,_,_,p⟩:=x;exact p.lt |dK kvs=>obtain⟨_,_,_,_,o,_,_,e,_⟩:=x;exact bw e |dT kvs=>obtain⟨_,_,_,_,o,_,_,e,_⟩:=x;exact bw e |set S n=>obtain⟨o,_,_,_,e,_⟩:=x;exact bw e |ins C dx fs=>obtain⟨_,_,_,e,_⟩:=x;exact bw e |own y=>obtain⟨_,e⟩:=x;exact bw e |xd fs=>obtain⟨_,⟨_,_,_,e,_⟩,_⟩:=x;exact bw e |rng lo hi=>obtain⟨_,_,_,e⟩:=x;exact bw e |frz ob u=>obtain⟨e,_⟩:=x;exact bw e |tbl ps=>exact bw (show h.get? a=↑_ from x) |met f y=>exact bw (show h.get? a=↑_ from x) |ext φ=>obtain⟨_,⟨_,e⟩,_⟩:=x;exact bw e
variable{α:Type}
def Paired.mapP{β:Type}{F G:α->β->Prop}{D:List α}{I:List β}(h:Paired F D I)(f:∀a b,F a b->G a b):Paired G D I:=by
 induction h with
 |nil=>exact .nil |cons r _ q=>exact .cons (f _ _ r) q
variable{H':Hp}{h':Heap}
def bR.stay(x:bR P w H h a o)(k:∀b u,(b=a\/H b=↑(.own a))->h.get? b=↑u->h'.get? b=↑u)(U:∀b,H b=↑(.own a)->H' b=↑(.own a))(V:∀b xs,H b=↑(.tup xs)->H' b=↑(.tup xs)):bR P w H' h' a o:=by
 induction o with
 |lst xs=>obtain⟨z,its,n,r,e⟩:=x;exact⟨z,its,n,r,k _ _ (.inl rfl) e⟩ |tup xs=>obtain⟨z,its,r,D,e,c⟩:=x;exact⟨z,its,r,D,k _ _ (.inl rfl) e,c⟩ |dK kvs=>obtain⟨z,y,vs,r,D,es,I,e,c⟩:=x;exact⟨z,y,vs,r,D,es,I,k _ _ (.inl rfl) e,c⟩ |dT kvs =>
   obtain⟨z,y,xs,r,D,es,I,e,c⟩:=x;exact⟨z,y,xs,Paired.mapP r λp q z=>⟨z.1,V _ _ z.2.1,z.2.2⟩,D,es,I,k _ _ (.inl rfl) e,c⟩
 |set S n=>obtain⟨D,es,I,t,e,c⟩:=x;exact⟨D,es,I,t,k _ _ (.inl rfl) e,c⟩ |ins C dx fs =>
   obtain⟨d,z,Y,e,mA,⟨od,es,I,Z,c⟩,r⟩:=x;exact⟨U _ d,z,Y,k _ _ (.inl rfl) e,mA,⟨od,es,I,k _ _ (.inr d) Z,c⟩,r⟩
 |own y=>obtain⟨D,e⟩:=x;exact⟨D,k _ _ (.inl rfl) e⟩ |xd fs=>obtain⟨mA,⟨od,es,I,e,c⟩,r⟩:=x;exact⟨mA,⟨od,es,I,k _ _ (.inl rfl) e,c⟩,r⟩ |rng lo hi=>obtain⟨t,u,v,e⟩:=x;exact⟨t,u,v,k _ _ (.inl rfl) e⟩ |frz D u ih=>obtain⟨e,q⟩:=x;exact⟨k _ _ (.inl rfl) e,ih q⟩ |tbl ps =>
   have e:h.get? a=some { cls:=.none,data:=.fields ps }:=x;show h'.get? a=some { cls:=.none,data:=.fields ps };exact k a _ (.inl rfl) e
 |met f y =>
   have e:h.get? a=↑(PySem.W.methodObj (.ref f) (.ref y)):=x;show h'.get? a=↑(PySem.W.methodObj (.ref f) (.ref y));exact k a _ (.inl rfl) e
 |ext φ=>obtain⟨p,⟨o,e⟩,st⟩:=x;exact⟨st _ _ p λo q=>k _ _ (.inl rfl) q,⟨o,k _ _ (.inl rfl) e⟩,st⟩
def eJ.lt(x:eJ P w H h)(e:H a=↑o):a<h.objs.size:=(x a o e).lt
def eJ.fresh(x:eJ P w H h)(e:h.objs.size<=a):H a=none:=by
 cases q:H a with
 |none=>rfl |some u=>exact absurd (bz (x.lt q) e) (gv _)
def eJ.kept(x:eJ P w H h)(k:∀b u,h.get? b=↑u->h'.get? b=↑u):eJ P w H h':=λa o e =>
 (x a o e).stay (λb u _ q=>k b u q) (λ_ q=>q) λ_ _ q=>q
def eJ.laid(x:eJ P w H h)(k:∀b u,h.get? b=↑u->h'.get? b=↑u)(U:h.objs.size<=a)(new:bR P w (a_ H a o) h' a o):eJ P w (a_ H a o) h':=λb u e=>by
 have D:=x.fresh U;by_cases I:b=a
 ·subst I;rw[og] at e;cases e;exact new
 ·rw[jh I] at e
  exact(x b u e).stay (λc v _ q=>k c v q) (λc q=>by rw[jh (rh q D)];exact q) λc xs q=>by rw[jh (rh q D)];exact q
def Rd(H:Hp)(a:Addr)(u:HO):Prop:=H a=↑u\/∃o,H a=↑(.frz o u)
variable{u:Value}
def Rd.ok{u:HO}(r:Rd H a u)(x:eJ P w H h):bR P w H h a u:=by
 rcases r with r | ⟨o,r⟩
 ·exact x a u r
 ·obtain⟨_,q⟩:=x a _ r
  exact q
def qB:Option HO->Prop
 |some (.lst _)=>True |some (.dK _)=>True |some (.dT _)=>True |some (.set _ _)=>True |some (.ins _ _ _)=>True |some (.ext _)=>True |_=>False
variable{x e:Addr}{o':HO}
def eJ.write(ok:eJ P w H h)(V:qB (H x))(a:e=x\/H e=↑(.own x))(k:∀b u,b≠e->h.get? b=↑u->h'.get? b=↑u)(Z:∃u,h'.get? e=↑u)(new:bR P w (a_ H x o') h' x o'):eJ P w (a_ H x o') h':=λb u q=>by
 have I:∀c y,H c=↑(.own y)->c≠x:=λc y r z=>by subst z;rw[r] at V;exact V
 have U:∀c xs,H c=↑(.tup xs)->c≠x:=λc xs r z=>by subst z;rw[r] at V;exact V
 by_cases Y:b=x
 ·subst Y;rw[og] at q;cases q;exact new
 ·rw[jh Y] at q
  by_cases D:b=e
  ·have d:H b=↑(.own x):=by
    rcases a with z |z
    ·exact absurd (D.trans z) Y
    ·rw[D];exact z
   rw[q] at d;cases d;obtain⟨v,f⟩:=Z;exact⟨v,by rw[D];exact f⟩
  ·refine(ok b u q).stay (λc v hc r=>k c v ?_ r) (λc r=>by rw[jh (I c b r)];exact r) λc xs r=>by rw[jh (U c xs r)];exact r
   rcases hc with rfl |hc
   ·exact D
   ·rintro rfl
    rcases a with z |z
    ·exact I c b hc z
    ·rw[hc] at z;cases z;exact Y rfl
structure Un (fs ex:gy) (H H':Hp) (h h':Heap):Prop where
 keep:∀b o,h.get? b=↑o->H b=none->b∉fs->b∉ex->h'.get? b=↑o
 slot:∀b o,h.get? b=↑o->H b=none->b∈fs->b∉ex->∃sl,h'.get? b=some { o with slots:=sl }
 free:∀b o,h.get? b=↑o->H b=none->b∉ex->H' b=none
 there:∀b o,h.get? b=↑o->b∉ex->∃o',h'.get? b=↑o'
 tups:∀b xs,H b=↑(.tup xs)->H' b=↑(.tup xs)
 frzs:∀b o u,H b=↑(.frz o u)->H' b=↑(.frz o u)
 tbls:∀b ps,H b=↑(.tbl ps)->∃more,H' b=↑(.tbl (ps++more))
variable{fs ex:gy}{H1:Hp}{h1:Heap}
def Un.any(u:Un fs ex H H1 h h1){D:Obj}(q:h.get? b=↑D)(n:H b=none)(I:b∉ex):∃sl,h1.get? b=some { D with slots:=sl }:=by
 by_cases U:b∈fs
 ·exact u.slot b D q n U I
 ·exact⟨D.slots,u.keep b D q n U I⟩
def Un.kept(k:∀b u,h.get? b=↑u->h'.get? b=↑u):Un fs ex H H h h' :=
 ⟨λb D q _ _ _=>k b D q,λb D q _ _ _=>⟨D.slots,k b D q⟩,λ_ _ _ n _=>n,λb D q _=>⟨D,k b D q⟩,λ_ _ q=>q,λ_ _ _ q=>q,λ_ ps q=>⟨#[],by rw[q];simp⟩⟩
def Un.refl:Un fs ex H H h h:=Un.kept λ_ _ q=>q
def Un.laid(k:∀b u,h.get? b=↑u->h'.get? b=↑u)(I:h.objs.size<=a)(D:H a=none):Un fs ex H (a_ H a o) h h' where
 keep:=λb u q _ _ _=>k b u q
 slot:=λb u q _ _ _=>⟨u.slots,k b u q⟩
 free:=λb u q n _=>by rw[jh (ce (bz (bw q) I))];exact n
 there:=λb u q _=>⟨u,k b u q⟩
 tups:=λb xs q=>by rw[jh (rh q D)];exact q
 frzs:=λb u xs q=>by rw[jh (rh q D)];exact q
 tbls:=λb ps q=>⟨#[],by rw[jh (rh q D),q];simp⟩
def Un.write(I:qB (H x))(a:e=x\/H e=↑(.own x))(k:∀b u,b≠e->h.get? b=↑u->h'.get? b=↑u)(U:∃u,h'.get? e=↑u):Un fs ex H (a_ H x o) h h':=by
 have Y:∀b,H b=none->b≠x:=λb n z=>by subst z;rw[n] at I;exact I
 have Z:∀b,H b=none->b≠e:=λb n z=>by
  subst z;rcases a with r |r
  ·exact Y b n r
  ·rw[n] at r;cases r
 have V:∀b u,H b=↑u->¬qB ↑u->b≠x:=λb u q nm z=>by subst z;rw[q] at I;exact nm I
 refine⟨λb u q n _ _=>k b u (Z b n) q,λb u q n _ _=>⟨u.slots,k b u (Z b n) q⟩,λb u q n _=>by rw[jh (Y b n)];exact n,λb u q _=>?_,
  λb xs q=>by rw[jh (V b _ q λz=>z)];exact q,λb u xs q=>by rw[jh (V b _ q λz=>z)];exact q,λb ps q=>⟨#[],by rw[jh (V b _ q λz=>z),q];simp⟩⟩
 by_cases D:b=e
 ·subst D;exact U
 ·exact⟨u,k b u D q⟩
def qC(h:Heap)(H:Hp):gy:=(List.range h.objs.size).filter λa=>(H a).isSome
def gC(h:Heap)(H:Hp):Heap:=PySem.W.hideAll h (qC h H)
def FR(h:Heap)(H:Hp):(gC h H).objs.size=h.objs.size:=PySem.W.hideAll_size _ _
variable{o:Obj}
def FU(e:h.get? b=↑o)(n:H b=none):(gC h H).get? b=↑o :=
 PySem.W.hideAll_get _ e λD=>by
  have q:(H b).isSome=true:=(ji.mp D).2;rw[n] at q;simp at q
def FW(e:(gC h H).get? b=↑o):h.get? b=↑o/\H b=none:=by
 have e':h.get? b=↑o:=PySem.W.of_hideAll (qC h H) e;refine⟨e',?_⟩;cases q:H b with
 |none=>rfl |some x =>
   have D:b∈qC h H:=ji.mpr ⟨ff.mpr (bw e'),by simp[q]⟩;have z:(gC h H).get? b=none:=PySem.W.hideAll_none (qC h H) D;rw[z] at e;cases e
structure Mod (K:ic) (mg:Str->gx) (base:Heap):Prop where
 kin:K.In base
 glob:base.Ns mainGlobals mg
 blt:∃mb,base.Ns builtinsNs mb/\∀x:Str,x ≠ "__name__"->mb x=bootBuiltins x
 nolimit:base.NoLimit
structure Cx where
 prog:Program
 w:World
 K:ic
 mg:Str->gx
 base:Heap
 A:Around
 N:gs
 s₀:Shared
 H₀:Hp
 env:Env
 outer:g9
 stack:g9
 ex:gy
 fn:Str->Bool
 calm:Bool
 pn:ii
 xe:Value->Shared->Prop
def eT(l:g9):gy:=l.filterMap (·.frame)
protected abbrev Cx.fs(X:Cx):gy:=eT X.outer
def kK(sc:Scope)(x:Str):Prop:=sc.names.lookup x=some .local\/sc.names.lookup x=some .cell\/sc.names.lookup x=some .free
def Loc(sc:Scope)(x:Str):Prop:=sc.names.lookup x=some .local\/sc.names.lookup x=some .cell
def Look(env:Env)(h:Heap)(m:Str->gx)(x:Str)(u:Value):Prop :=
 (env.kindOf x=some .local/\m x=↑u)\/((env.kindOf x=some .cell\/env.kindOf x=some .free)/\∃c,env.cells.lookup x=↑c/\h.IsCell c ↑u)
structure Cx.Ok (X:Cx):Prop where
 mod:Mod X.K X.mg X.base
 kind:X.env.scope.kind=.function
 glob:X.env.globals=mainGlobals
 blt:X.env.builtins=builtinsNs
 above:X.s₀.heap.objs.size<=X.env.locals
 inj:∀x y c,X.env.cells.lookup x=↑c->X.env.cells.lookup y=↑c->x=y
 has:∀x,(X.env.kindOf x=some .cell\/X.env.kindOf x=some .free)->∃c,X.env.cells.lookup x=↑c
 cab:∀x c,X.fn x=true->X.env.cells.lookup x=↑c->X.s₀.heap.objs.size<=c
 hd:X.calm=true->X.A.handled=none
 frames:X.A.frames=↑X.stack
 stk:X.stack=X.outer\/(X.stack=X.env::X.outer/\X.env.frame=↑X.env.locals)
 exf:∀b∈X.ex,b≠X.env.locals/\∀x c,X.env.cells.lookup x=↑c->c≠b
 bs:∀b o,X.base.get? b=↑o->X.s₀.heap.get? b=↑o/\X.H₀ b=none
 bsz:X.base.objs.size<=X.s₀.heap.objs.size
 noex:∀b o,X.base.get? b=↑o->b∉X.ex
 exfs:∀b∈X.ex,b∉X.fs
 funs:X.s₀.heap.FunFrames X.base X.outer
 frf:∀b∈X.fs,X.H₀ b=none
structure Inv (X:Cx) (pins:ii) (σ:List (Option V)) (H:Hp) (s:Shared):Prop where
 ok:X.Ok
 os:s.os=X.s₀.os
 bare:AllBare s.gens
 base:Un X.fs X.ex X.H₀ H X.s₀.heap s.heap
 loc:∃m,s.heap.Ns X.env.locals m/\∀(i:Nat) (x:Str) (v:V),X.N[i]?=↑x->σ[i]?=↑↑v->kK X.env.scope x->∃u,RelV v u/\Look X.env s.heap m x u
 cell:∀x c,X.env.cells.lookup x=↑c->∃v,s.heap.IsCell c v
 free:H X.env.locals=none
 freeC:∀x c,X.env.cells.lookup x=↑c->H c=none
 pin:∀p∈X.pn++pins,s.heap.get? p.1=↑p.2/\H p.1=none/\p.1≠X.env.locals/\p.1∉X.fs/\∀v,p.2.data≠.cell v
 hok:eJ X.prog X.w H s.heap
 len:σ.length=X.N.length
variable{X:Cx}
def Cx.Ok.nofr(ok:X.Ok)(e:X.base.get? b=↑o):b∉X.fs:=λD=>by
 have:=(ok.funs.mem D).1;rw[e] at this;cases this
variable{pins:ii}{σ:List (Option V)}{s:Shared}
def Inv.bs(I:Inv X pins σ H s):∀b o,X.base.get? b=↑o->s.heap.get? b=↑o/\H b=none:=λb o e =>
 ⟨I.base.keep b o (I.ok.bs b o e).1 (I.ok.bs b o e).2 (I.ok.nofr e) (I.ok.noex b o e),I.base.free b o (I.ok.bs b o e).1 (I.ok.bs b o e).2 (I.ok.noex b o e)⟩
def Inv.bk(I:Inv X pins σ H s):∀b o,X.base.get? b=↑o->s.heap.get? b=↑o:=λb o e=>(I.bs b o e).1
def Inv.mod(I:Inv X pins σ H s):Mod X.K X.mg X.base:=I.ok.mod
def Inv.kIn(I:Inv X pins σ H s):X.K.In s.heap:=I.ok.mod.kin.keeps I.bk
def Inv.lt(I:Inv X pins σ H s):X.env.locals<s.heap.objs.size:=let ⟨_,D,_⟩:=I.loc;D.lt
def Inv.sz(I:Inv X pins σ H s):X.s₀.heap.objs.size<=s.heap.objs.size:=cy I.ok.above (ly I.lt)
def Inv.nofs(I:Inv X pins σ H s)(h:s.heap.objs.size<=a):a∉X.fs:=λD=>by
 obtain⟨_,o,U,_⟩:=I.ok.funs.mem D;exact absurd (bz (bw U) (cy I.sz h)) (gv _)
def Inv.cne(I:Inv X pins σ H s):∀x c,X.env.cells.lookup x=↑c->c≠X.env.locals:=λx c e z=>by
 obtain⟨v,o,V,hd⟩:=I.cell x c e;obtain⟨m,⟨o',es,Y,D,U,_⟩,_⟩:=I.loc;rw[z,D] at V;cases V;rw[U] at hd;cases hd
def Inv.funs(I:Inv X pins σ H s):s.heap.FunFrames X.base X.outer:=by
 have all:∀(l:g9),(∀b∈eT l,b∈X.fs)->X.s₀.heap.FunFrames X.base l->s.heap.FunFrames X.base l:=by
  intro l;induction l with
  |nil=>intro _ _;trivial
  |cons env r ih =>
    intro Y Z;obtain⟨a,⟨L,o,D,c,d,hd⟩,f⟩:=Z;have U:L∈X.fs:=Y L (by unfold eT;rw[lu,D];exact bi);obtain⟨sl,e⟩:=I.base.slot L o d (I.ok.frf L U) U λz=>I.ok.exfs L z U;exact⟨a,⟨L,_,D,c,e,hd⟩,ih (λb V=>Y b (by unfold eT;rw[lu,D];exact ay _ V)) f⟩
 exact all X.outer (λ_ V=>V) I.ok.funs
def Inv.stack(I:Inv X pins σ H s):s.heap.FunFrames X.base X.stack:=by
 rcases I.ok.stk with e | ⟨e,hf⟩
 ·rw[e];exact I.funs
 ·rw[e]
  obtain⟨m,D,_⟩:=I.loc;refine .cons (by rw[I.ok.kind];decide) hf D ?_ I.funs;exact Heap.get?_none_of_le (cy I.ok.bsz I.ok.above)
def Inv.stkSub(I:Inv X pins σ H s):∀b∈eT X.stack,b∈X.env.locals::X.fs:=λb D=>by
 rcases I.ok.stk with e | ⟨e,hf⟩
 ·rw[e] at D;exact ay _ D
 ·rw[e] at D
  unfold eT at D;rw[lu,hf] at D;exact D
def Inv.stkFree(I:Inv X pins σ H s):∀b∈eT X.stack,H b=none:=λb hb=>by
 rcases cf.mp (I.stkSub b hb) with e |hb
 ·rw[e];exact I.free
 ·obtain⟨_,o,D,_⟩:=I.ok.funs.mem hb
  exact I.base.free b o D (I.ok.frf b hb) λz=>I.ok.exfs b z hb
variable{g':Array GenState}{t':Nat}{d':Drawn}{ch:gy}
protected def Inv.step(I:Inv X pins σ H s)(U:∀b∈ch,(b∈X.ex\/X.s₀.heap.objs.size<=b)/\b≠X.env.locals/\(∀x c,X.env.cells.lookup x=↑c->c≠b)/\∀p∈X.pn++pins,p.1≠b)(keep:∀b o,b≠X.env.locals->b∉X.fs->b∉ch->s.heap.get? b=↑o->H b=none->h'.get? b=↑o)(f:∀b o,b≠X.env.locals->b∈X.fs->b∉ch->s.heap.get? b=↑o->H b=none->∃sl,h'.get? b=some { o with slots:=sl })(free:∀b o,b∉ch->s.heap.get? b=↑o->H b=none->H' b=none)(g:∀b o,b∉ch->s.heap.get? b=↑o->∃o',h'.get? b=↑o')(t:∀b xs,H b=↑(.tup xs)->H' b=↑(.tup xs))(y:∀b o u,H b=↑(.frz o u)->H' b=↑(.frz o u))(A:∀b ps,H b=↑(.tbl ps)->∃more,H' b=↑(.tbl (ps++more)))(ns:∀m,s.heap.Ns X.env.locals m->h'.Ns X.env.locals m)(E:eJ X.prog X.w H' h')(M:AllBare g') :
  Inv X pins σ H' { s with heap:=h',gens:=g',drawn:=d',toks:=t' }:=by
 have B:∀b o,X.s₀.heap.get? b=↑o->b≠X.env.locals:=λb o e=>ce (bz (bw e) I.ok.above);have Z:∀b o,X.s₀.heap.get? b=↑o->b∉X.ex->b∉ch:=λb o e D h=>by
  rcases(U b h).1 with z |z
  ·exact D z
  ·exact absurd (bz (bw e) z) (gv _)
 have V:∀x c,X.env.cells.lookup x=↑c->∀v,s.heap.IsCell c v->h'.IsCell c v:=λx c e v N=>by
  obtain⟨o,j,hd⟩:=N;have Y:c∉ch:=λz=>(U c z).2.2.1 x c e rfl;by_cases G:c∈X.fs
  ·obtain⟨sl,q⟩:=f c o (I.cne x c e) G Y j (I.freeC x c e)
   exact⟨_,q,hd⟩
  ·exact⟨o,keep c o (I.cne x c e) G Y j (I.freeC x c e),hd⟩
 refine⟨I.ok,I.os,M,⟨λb o e n h D=>?_,λb o e n h D=>?_,λb o e n D=>?_,λb o e D=>?_,λb xs e=>t b xs (I.base.tups b xs e),λb o xs e=>y b o xs (I.base.frzs b o xs e),λb ps e=>?_⟩,?_,λx c e=>?_,?_,λx c e=>?_,λp J=>?_,E,I.len⟩
 ·exact keep b o (B b o e) h (Z b o e D) (I.base.keep b o e n h D) (I.base.free b o e n D)
 ·obtain⟨sl,a⟩:=I.base.slot b o e n h D
  obtain⟨F,C⟩:=f b _ (B b o e) h (Z b o e D) a (I.base.free b o e n D);exact⟨F,C⟩
 ·obtain⟨o',a⟩:=I.base.there b o e D
  exact free b o' (Z b o e D) a (I.base.free b o e n D)
 ·obtain⟨o',a⟩:=I.base.there b o e D
  exact g b o' (Z b o e D) a
 ·obtain⟨O,a⟩:=I.base.tbls b ps e
  obtain⟨m2,C⟩:=A b _ a;exact⟨O++m2,by rw[C,Array.append_assoc]⟩
 ·obtain⟨m,P,Q⟩:=I.loc
  refine⟨m,ns m P,λi x v a C R=>?_⟩;obtain⟨u,r,l⟩:=Q i x v a C R;refine⟨u,r,?_⟩;rcases l with l | ⟨k,c,e,z⟩
  ·exact .inl l
  ·exact .inr ⟨k,c,e,V x c e _ z⟩
 ·obtain⟨v,z⟩:=I.cell x c e
  exact⟨v,V x c e v z⟩
 ·obtain⟨m,⟨o,_,_,j,_⟩,_⟩:=I.loc
  exact free _ o (λz=>(U _ z).2.1 rfl) j I.free
 ·obtain⟨v,o,j,hd⟩:=I.cell x c e
  exact free c o (λz=>(U c z).2.2.1 x c e rfl) j (I.freeC x c e)
 ·obtain⟨e,n,K,L,d⟩:=I.pin p J
  have Y:p.1∉ch:=λz=>(U p.1 z).2.2.2 p J rfl;exact⟨keep p.1 p.2 K L Y e n,free p.1 p.2 Y e n,K,L,d⟩
def Inv.un(I:Inv X pins σ H s)(u:Un X.fs [] H H' s.heap h')(U:eJ X.prog X.w H' h'):Inv X pins σ H' { s with heap:=h',toks:=t' }:=by
 obtain⟨m,⟨o,es,g,a,r⟩,_⟩:=id I.loc;obtain⟨sl,c⟩:=u.any a I.free ⋯;exact I.step (g':=s.gens) (d':=s.drawn) (ch:=[]) (λ_ z=>nomatch z) (λb o _ V _ e n=>u.keep b o e n V ⋯) (λb o _ V _ e n=>u.slot b o e n V ⋯) (λb o _ e n=>u.free b o e n ⋯) (λb o _ e=>u.there b o e ⋯) u.tups u.frzs u.tbls (λh d=>by
  obtain⟨o',Y,Z,D,f⟩:=d;rw[a] at D;cases D;exact⟨_,Y,Z,c,f⟩) U I.bare
def Inv.call(I:Inv X pins σ H s)(u:Un (eT X.stack) ch H H' s.heap h')(Y:eJ X.prog X.w H' h')(g:AllBare g')(U:∀b∈ch,(b∈X.ex\/X.s₀.heap.objs.size<=b)/\b≠X.env.locals/\(∀x c,X.env.cells.lookup x=↑c->c≠b)/\∀p∈X.pn++pins,p.1≠b) :
  Inv X pins σ H' { s with heap:=h',gens:=g',drawn:=d',toks:=t' }:=by
 obtain⟨m,⟨o,es,k,f,r⟩,_⟩:=id I.loc;obtain⟨sl,Z⟩:=u.any f I.free λz=>(U _ z).2.1 rfl;exact I.step (ch:=ch) U (λb o Z h D e n=>u.keep b o e n (λz=>(cf.mp (I.stkSub b z)).elim Z h) D) (λb o _ _ D e n=>u.any e n D) (λb o D e n=>u.free b o e n D) (λb o D e=>u.there b o e D) u.tups u.frzs u.tbls (λl i=>by
  obtain⟨o',a,d,V,j⟩:=i;rw[f] at V;cases V;exact⟨_,a,d,Z,j⟩) Y g
variable{it:Addr}
def Inv.turned(I:Inv X pins σ H s)(k:∀b o,b≠it->s.heap.get? b=↑o->h'.get? b=↑o)(Y:H it=none)(V:it≠X.env.locals)(h1:it∈X.ex\/X.s₀.heap.objs.size<=it)(h2:∀x c,X.env.cells.lookup x=↑c->c≠it)(Z:∀p∈X.pn++pins,p.1≠it):Inv X pins σ H { s with heap:=h',toks:=t' }:=by
 have U:∀b u,H b=↑u->b≠it:=λb u e z=>by rw[z,Y] at e;cases e
 refine I.step (g':=s.gens) (d':=s.drawn) (ch:=[it]) (λb a=>?_) (λb o _ _ D e _=>k b o (λz=>D (by simp[z])) e) (λb o _ _ D e _=>⟨o.slots,k b o (λz=>D (by simp[z])) e⟩) (λ_ _ _ _ n=>n)
  (λb o D e=>⟨o,k b o (λz=>D (by simp[z])) e⟩) (λ_ _ e=>e) (λ_ _ _ e=>e) (λb ps e=>⟨#[],by rw[e];simp⟩) (λm d=>?_) (λb u e=>?_) I.bare
 ·have e:b=it:=by simpa using a
  subst e;exact⟨h1,V,h2,Z⟩
 ·obtain⟨o,es,f,g,r⟩:=d
  exact⟨o,es,f,k _ o (Ne.symm V) g,r⟩
 ·refine(I.hok b u e).stay (λc v D q=>k c v ?_ q) (λ_ q=>q) λ_ _ q=>q
  rcases D with z |z
  ·rw[z];exact U b u e
  ·exact U c _ z
def Inv.tok(I:Inv X pins σ H s)(t:Nat):Inv X pins σ H { s with toks:=t }:=I.un (h':=s.heap) (t':=t) Un.refl I.hok
def Inv.kept{t':Nat}(I:Inv X pins σ H s)(k:∀b u,s.heap.get? b=↑u->h'.get? b=↑u):Inv X pins σ H { s with heap:=h',toks:=t' }:=I.un (Un.kept k) (I.hok.kept k)
def Inv.laid{a:Addr}{o:HO}{t':Nat}(I:Inv X pins σ H s)(k:∀b u,s.heap.get? b=↑u->h'.get? b=↑u)(D:s.heap.objs.size<=a)(new:bR X.prog X.w (a_ H a o) h' a o) :
  Inv X pins σ (a_ H a o) { s with heap:=h',toks:=t' }:=I.un (Un.laid k D (I.hok.fresh D)) (I.hok.laid k D new)
def Inv.write{x e:Addr}{o:HO}{t':Nat}(I:Inv X pins σ H s)(U:qB (H x))(V:e=x\/H e=↑(.own x))(k:∀b u,b≠e->s.heap.get? b=↑u->h'.get? b=↑u)(D:∃u,h'.get? e=↑u)(new:bR X.prog X.w (a_ H x o) h' x o):Inv X pins σ (a_ H x o) { s with heap:=h',toks:=t' }:=I.un (Un.write U V k D) (I.hok.write U V k D new)
def Inv.pins_of{D:ii}(I:Inv X pins σ H s)(h:∀p∈D,s.heap.get? p.1=↑p.2/\H p.1=none/\p.1≠X.env.locals/\p.1∉X.fs/\∀v,p.2.data≠.cell v):Inv X D σ H s :=
 ⟨I.ok,I.os,I.bare,I.base,I.loc,I.cell,I.free,I.freeC,λp U=>(dc.mp U).elim (λz=>I.pin p (d8 _ z)) (h p),I.hok,I.len⟩
variable{x:Str}{N:gs}{i:Nat}{j:Int}
def uG(D:N.Nodup){j:Nat}(a:N[i]?=↑x)(b:N[j]?=↑x):i=j:=by
 obtain⟨h1,I⟩:=am.mp a;obtain⟨h2,U⟩:=am.mp b;exact(List.getElem_inj D).mp (I.trans U.symm)
variable{M:Model}{A:Around}{E:Value->Shared->Prop}{v:V}{Q:Unit->Shared->Prop}
def uH(I:Inv X pins σ H s)(hN:X.N.Nodup)(hi:X.N[i]?=↑x)(Y:Loc X.env.scope x)(r:RelV v u)(h:∀s',Inv X pins (σ.set i ↑v) H s'->(∃a,Heap.SameBut a s.heap s'.heap/\(a=X.env.locals\/X.env.cells.lookup x=↑a))->Q () s')(hf:X.fn x=true\/X.env.scope.names.lookup x=some .local:=by first |exact .inl rfl |exact .inr rfl |assumption):wpAny M A (storeName X.env x u) Q E s:=by
 obtain⟨m,R,hl⟩:=id I.loc;have C:(X.env.scope.kind==.class || (X.env.scope.kind==.module && X.env.locals != X.env.globals))=false:=by rw[I.ok.kind];rfl
 have g:i<σ.length:=by rw[I.len];exact(am.mp hi).1
 have cne:=I.cne;have U:∀ {a:Addr} {h':Heap},(∃o,s.heap.get? a=↑o/\H a=none)->Heap.SameBut a s.heap h'->eJ X.prog X.w H h':=λ{a h'} ha D b ob e=>by
  obtain⟨_,_,Z⟩:=ha;refine(I.hok b ob e).stay (λc L hc q=>(D.2 c ?_).trans q) (λ_ q=>q) λ_ _ q=>q;rintro rfl;rcases hc with rfl |hc
  ·rw[Z] at e;cases e
  ·rw[Z] at hc;cases hc
 rcases Y with hk |hk
 ·refine wpAny_storeName_local hk R (λh' S D=>?_) C
  obtain⟨oL,_,_,T,_⟩:=id R;refine h _ ⟨I.ok,I.os,I.bare,⟨λb o e n l Y=>?_,λb o e n l Y=>?_,I.base.free,λb o e Y=>?_,I.base.tups,I.base.frzs,I.base.tbls⟩,⟨_,S,λj y W V f e3=>?_⟩,λy c e=>?_,I.free,I.freeC,λp hp=>?_,U ⟨oL,T,I.free⟩ D,by simpa using I.len⟩ ⟨_,D,.inl rfl⟩
  ·exact(D.2 b (ce (bz (bw e) I.ok.above))).trans (I.base.keep b o e n l Y)
  ·obtain⟨sl,V⟩:=I.base.slot b o e n l Y
   exact⟨sl,(D.2 b (ce (bz (bw e) I.ok.above))).trans V⟩
  ·obtain⟨o',V⟩:=I.base.there b o e Y
   exact⟨o',(D.2 b (ce (bz (bw e) I.ok.above))).trans V⟩
  ·by_cases t:j=i
   ·subst t
    rw[hi] at V;cases V;rw[fj g] at f;cases f;exact⟨u,r,.inl ⟨hk,by simp⟩⟩
   ·rw[dy (Ne.symm t)] at f
    obtain⟨u',r',q⟩:=hl j y W V f e3;refine⟨u',r',?_⟩;rcases q with⟨k,e⟩ | ⟨k,c,e,z⟩
    ·refine .inl ⟨k,?_⟩
     have:y≠x:=λe=>t (uG hN V (e ▸ hi));simp[this,e]
    ·exact .inr ⟨k,c,e,z.sameBut D (cne y c e)⟩
  ·obtain⟨L,z⟩:=I.cell y c e
   exact⟨L,z.sameBut D (cne y c e)⟩
  ·obtain⟨e,n,O,nf,d⟩:=I.pin p hp
   exact⟨(D.2 p.1 O).trans e,n,O,nf,d⟩
 ·have B:X.fn x=true:=by
   rcases hf with z |z
   ·exact z
   ·rw[z] at hk;cases hk
  obtain⟨c,hc⟩:=I.ok.has x (.inl hk);obtain⟨L,z⟩:=I.cell x c hc;refine wpAny_storeName_cell I.ok.kind hk hc z (λh' F D=>?_);obtain⟨oc,G,J⟩:=id z;refine h { s with heap:=h' } ⟨I.ok,I.os,I.bare,⟨λb o e n l Y=>?_,λb o e n l Y=>?_,I.base.free,λb o e Y=>?_,I.base.tups,I.base.frzs,I.base.tbls⟩,⟨m,R.sameBut D (Ne.symm (cne x c hc)),λj y W V f e3=>?_⟩,λy P e=>?_,I.free,I.freeC,λp hp=>?_,U ⟨oc,G,I.freeC x c hc⟩ D,by simpa using I.len⟩ ⟨c,D,.inr hc⟩
  ·exact(D.2 b (ce (bz (bw e) (I.ok.cab x c B hc)))).trans (I.base.keep b o e n l Y)
  ·obtain⟨sl,V⟩:=I.base.slot b o e n l Y
   exact⟨sl,(D.2 b (ce (bz (bw e) (I.ok.cab x c B hc)))).trans V⟩
  ·obtain⟨o',V⟩:=I.base.there b o e Y
   exact⟨o',(D.2 b (ce (bz (bw e) (I.ok.cab x c B hc)))).trans V⟩
  ·by_cases t:j=i
   ·subst t
    rw[hi] at V;cases V;rw[fj g] at f;cases f;exact⟨u,r,.inr ⟨.inl hk,c,hc,F⟩⟩
   ·rw[dy (Ne.symm t)] at f
    obtain⟨u',r',q⟩:=hl j y W V f e3;refine⟨u',r',?_⟩;rcases q with q | ⟨k,P,e,z'⟩
    ·exact .inl q
    ·refine .inr ⟨k,P,e,z'.sameBut D ?_⟩
     rintro rfl;exact t (uG hN V (I.ok.inj _ _ _ e hc ▸ hi))
  ·by_cases K:P=c
   ·subst K;exact⟨_,F⟩
   ·obtain⟨w2,z2⟩:=I.cell y P e
    exact⟨w2,z2.sameBut D K⟩
  ·obtain⟨e,n,O,nf,d⟩:=I.pin p hp
   refine⟨(D.2 p.1 ?_).trans e,n,O,nf,d⟩;intro q;rw[q,G] at e;have q':oc=p.2:=b9 e;exact d L (by rw[<-q'];exact J)
def uI(I:Inv X pins σ H s)(D:X.N.Nodup)(hi:X.N[i]?=↑x)(U:Loc X.env.scope x)(r:RelV v u)(h:∀s',Inv X pins (σ.set i ↑v) H s'->Q () s')(V:X.fn x=true\/X.env.scope.names.lookup x=some .local:=by first |exact .inl rfl |exact .inr rfl |assumption):wpAny M A (storeName X.env x u) Q E s :=
 uH I D hi U r (λs' Y _=>h s' Y) V
variable{s':Shared}
def Inv.call'(I:Inv X pins σ H s)(V:s'.os=s.os)(u:Un (eT X.stack) ch H H' s.heap s'.heap)(D:eJ X.prog X.w H' s'.heap)(Y:AllBare s'.gens)(U:∀b∈ch,(b∈X.ex\/X.s₀.heap.objs.size<=b)/\b≠X.env.locals/\(∀x c,X.env.cells.lookup x=↑c->c≠b)/\∀p∈X.pn++pins,p.1≠b):Inv X pins σ H' s':=by
 obtain⟨h',g',d',t',o'⟩:=s';have e:o'=s.os:=V;subst e;exact I.call (g':=g') (t':=t') (d':=d') u D Y U
abbrev XK:=Value->Option Addr->Hp->Prop
abbrev St:=List (Option V)
abbrev VK:=V->Hp->Prop
abbrev TE:=St->Hp->VK->Prop
abbrev TT:=St->Hp->(Bool->Hp->Prop)->Prop
abbrev TA:=St->Hp->(ip->Hp->Prop)->Prop
structure gM where
 nx:St->Hp->Prop
 rt:VK
 bk:St->Hp->Prop:=λ_ _=>False
 ct:St->Hp->Prop:=λ_ _=>False
abbrev TS:=gM->St->Hp->Prop
inductive EP (X:Cx) (pins:ii) (σ:St) (Q:VK) (u:Value) (s':Shared):Prop
 |mk (v:V) (H':Hp) (i:Inv X pins σ H' s') (r:RelV v u) (q:Q v H'):EP X pins σ Q u s'
inductive TP (X:Cx) (pins:ii) (σ:St) (Q:Bool->Hp->Prop) (b:Bool) (s':Shared):Prop
 |mk (H':Hp) (i:Inv X pins σ H' s') (q:Q b H'):TP X pins σ Q b s'
inductive AP (X:Cx) (pins:ii) (σ:St) (Q:ip->Hp->Prop) (us:gu) (s':Shared):Prop
 |mk (vs:ip) (H':Hp) (i:Inv X pins σ H' s') (r:aO vs us) (q:Q vs H'):AP X pins σ Q us s'
def SP(X:Cx)(pins:ii)(D:gM)(f:Flow)(s':Shared):Prop :=
 match f with
 | .next=>∃I H',Inv X pins I H' s'/\D.nx I H' | .brk=>∃I H',Inv X pins I H' s'/\D.bk I H' | .cont=>∃I H',Inv X pins I H' s'/\D.ct I H' | .ret u=>∃v I H',Inv X pins I H' s'/\RelV v u/\D.rt v H'
def PE(X:Cx)(e:Expr)(t:TE):Prop :=
 ∀(pins:ii) (s:Shared) (σ:St) (H:Hp) (Q:VK),Inv X pins σ H s->t σ H Q->wpAny (model X.prog X.w) X.A (eval e X.env) (EP X pins σ Q) X.xe s
def PT(X:Cx)(e:Expr)(t:TT):Prop :=
 ∀(pins:ii) (s:Shared) (σ:St) (H:Hp) (Q:Bool->Hp->Prop),Inv X pins σ H s->t σ H Q->wpAny (model X.prog X.w) X.A (isTrue e X.env (eval e X.env)) (TP X pins σ Q) X.xe s
def PW(X:Cx)(e:Expr)(t:TT):Prop :=
 ∀(whole:Sem Value) (pins:ii) (s:Shared) (σ:St) (H:Hp) (Q:Bool->Hp->Prop),Inv X pins σ H s->t σ H Q->wpAny (model X.prog X.w) X.A (isTrue e X.env whole) (TP X pins σ Q) X.xe s
variable{e:Expr}{t:TE}
def PW.pt{t:TT}(h:PW X e t):PT X e t:=h _
def PA(X:Cx)(es:h6)(t:TA):Prop :=
 ∀(pos:Pos) (pins:ii) (s:Shared) (σ:St) (H:Hp) (Q:ip->Hp->Prop),Inv X pins σ H s->t σ H Q->wpAny (model X.prog X.w) X.A (spliced (backTo pos (starEach es X.env))) (AP X pins σ Q) X.xe s
def PS(X:Cx)(st:Stmt)(t:TS):Prop :=
 ∀(pins:ii) (s:Shared) (σ:St) (H:Hp) (D:gM),Inv X pins σ H s->t D σ H->wpAny (model X.prog X.w) X.A (exec st X.env) (SP X pins D) X.xe s
def gJ(X:Cx)(st:List Stmt)(t:TS):Prop :=
 ∀(pins:ii) (s:Shared) (σ:St) (H:Hp) (D:gM),Inv X pins σ H s->t D σ H->wpAny (model X.prog X.w) X.A (execs st X.env) (SP X pins D) X.xe s
def bI{t:Sem α}{Q D:α->Shared->Prop}(h:wpAny M A t Q E s)(I:∀a s,Q a s->D a s):wpAny M A t D E s:=iz h I λ_ _ x=>x
def iK(i:Nat):TE:=λσ H Q=>∃v,σ[i]?=↑↑v/\Q v H
def tC(v:V):TE:=λ_ H Q=>Q v H
variable{pos:Pos}
def FX(V:X.N[i]?=↑x)(Y:kK X.env.scope x)(hd:(x==("__debug__" : Str))=false:=by decide)(U:(x==("__classdict__" : Str))=false:=by decide):PE X (.Name x pos) (iK i):=by
 intro pins s σ H Q I h;obtain⟨v,e,h⟩:=h;obtain⟨m,Z,a⟩:=I.loc;obtain⟨u,r,l⟩:=a i x v V e Y;have D:EP X pins σ Q u s:=⟨v,H,I,r,h⟩;rcases l with⟨hk,b⟩ | ⟨hk,c,hc,hcell⟩
 ·exact wpAny_Name (wpAny_loadName_local I.ok.kind hk Z b D) hd
 ·rcases hk with hk |hk
  ·exact wpAny_Name (wpAny_loadName_cell I.ok.kind hk hc hcell D) hd
  ·exact wpAny_Name (wpAny_loadName_free I.ok.kind hk hc hcell D U) hd
def uJ{i j pos}:PE X (.Constant ↥i j pos) (tC ↥i):=λ_ _ _ H _ I h=>wpAny_Constant_int ⟨.int i,H,I.tok _,⟨_,rfl⟩,h⟩
def FY{b j pos}:PE X (.Constant (.bool b) j pos) (tC (.bl b)):=λ_ _ _ H _ I h=>Constant_bool ⟨.bl b,H,I,rfl,h⟩
def AY{x j pos}:PE X (.Constant (.str x) j pos) (tC (.str x)):=λ_ _ _ H _ I h=>Calls.Constant_str ⟨.str x,H,I.tok _,⟨_,rfl⟩,h⟩
def Gl(X:Cx)(x:Str):Prop:=X.env.kindOf x=some .globalImplicit
variable{σ:St}{Q:Value->Shared->Prop}
def zk(I:Inv X pins σ H s)(D:Gl X x)(U:X.mg x=↑u)(h:Q u s)(hd:(x==("__debug__" : Str))=false:=by decide):wpAny (model X.prog X.w) X.A (eval (.Name x pos) X.env) Q E s :=
 Calls.Name_function_global I.ok.kind D (Calls.loadGlobal_global (by rw[I.ok.glob];exact I.mod.glob.keeps I.bk) U h) hd
def wg(I:Inv X pins σ H s)(D:Gl X x)(U:X.mg x=none)(V:bootBuiltins x=↑u)(h:Q u s)(Y:x ≠ "__name__":=by decide)(hd:(x==("__debug__" : Str))=false:=by decide):wpAny (model X.prog X.w) X.A (eval (.Name x pos) X.env) Q E s:=by
 obtain⟨Z,h1,h2⟩:=I.mod.blt;exact Calls.Name_function_global I.ok.kind D (Calls.loadGlobal_builtin (by rw[I.ok.glob];exact I.mod.glob.keeps I.bk) U (by rw[I.ok.blt];exact h1.keeps I.bk) ((h2 x Y).trans V) h) hd
def AZ(D:Gl X x)(U:X.mg x=↑u)(r:RelV v u)(hd:(x==("__debug__" : Str))=false:=by decide):PE X (.Name x pos) (tC v) :=
 λ_ _ _ H _ I h=>zk I D U ⟨v,H,I,r,h⟩ hd
def uK(D:Gl X x)(U:X.mg x=none)(V:bootBuiltins x=↑u)(r:RelV v u)(Y:x ≠ "__name__":=by decide)(hd:(x==("__debug__" : Str))=false:=by decide):PE X (.Name x pos) (tC v) :=
 λ_ _ _ H _ I h=>wg I D U V ⟨v,H,I,r,h⟩ Y hd
def tB(t:TE):TT:=λσ H Q=>t σ H λx H1=>∃c,x=.bl c/\Q c H1
def FZ(h:PE X e t)(D:∀whole,isTrue e X.env whole=(do let v <-whole;standAt e.pos;holding [v] (truthy v)):=by intro _;rfl):PT X e (tB t):=by
 intro pins s σ H Q I U;refine isTrue_plain (bI (h pins s σ H _ I U) λv b V=>?_) (D _);obtain⟨x,H1,Y,Z,a⟩:=V;obtain⟨d,rfl,q⟩:=a;cases Z;exact o5 ⟨H1,Y,q⟩
def uL(t u:TT):TT:=λσ H Q=>t σ H λc H1=>if c=true then u σ H1 Q else Q false H1
def F_(t u:TT):TT:=λσ H Q=>t σ H λc H1=>if c=true then Q true H1 else u σ H1 Q
def uM(t:TT):TT:=λσ H Q=>t σ H λc H1=>Q (!c) H1
variable{a:Expr}{tA:TT}
def Ga(D:PT X a tA):PW X (.BoolOp .And [a] pos) tA:=by
 intro U pins s σ H Q I h;refine isTrue_and (bI (D pins s σ H Q I h) λc V e=>?_);cases c with
 |true=>exact isTrue_and_nil e |false=>exact e
def Gb(D:PT X a tA):PW X (.BoolOp .Or [a] pos) tA:=by
 intro U pins s σ H Q I h;refine isTrue_or (bI (D pins s σ H Q I h) λc V e=>?_);cases c with
 |false=>exact isTrue_or_nil e |true=>exact e
variable{b:Expr}{tB':TT}{rest:h6}
def Gc(V:PT X a tA)(Y:PW X (.BoolOp .And (b::rest) pos) tB'):PW X (.BoolOp .And (a::b::rest) pos) (uL tA tB'):=by
 intro Z pins s σ H Q I h;refine isTrue_and (bI (V pins s σ H _ I h) λc d e=>?_);obtain⟨H1,D,U⟩:=e;cases c with
 |true=>exact Y Z pins d σ H1 Q D U |false=>exact⟨H1,D,U⟩
def Ge(V:PT X a tA)(Y:PW X (.BoolOp .Or (b::rest) pos) tB'):PW X (.BoolOp .Or (a::b::rest) pos) (F_ tA tB'):=by
 intro Z pins s σ H Q I h;refine isTrue_or (bI (V pins s σ H _ I h) λc d e=>?_);obtain⟨H1,D,U⟩:=e;cases c with
 |true=>exact⟨H1,D,U⟩ |false=>exact Y Z pins d σ H1 Q D U
def Gf(D:PT X a tA):PT X (.UnaryOp .Not a pos) (uM tA):=by
 intro pins s σ H Q I h;refine isTrue_not (bI (D pins s σ H (λc H1=>Q (!c) H1) I h) λc V h=>?_);obtain⟨H1,U,q⟩:=h;exact⟨H1,U,q⟩
def Gg(ta tb:TE):TE:=λσ H Q=>ta σ H λx H1=>∃c,x=.bl c/\if c=true then tb σ H1 Q else Q (.bl false) H1
def Gh(ta:TE):TE:=λσ H Q=>ta σ H λx H1=>∃c,x=.bl c/\Q (.bl (!c)) H1
def Gi{op}(h:PE X a t):PE X (.BoolOp op [a] pos) t:=λpins s σ H Q I D=>BoolOp_one (h pins s σ H Q I D)
variable{ta tb:TE}
def Gj(V:PE X a ta)(Y:PE X (.BoolOp .And (b::rest) pos) tb):PE X (.BoolOp .And (a::b::rest) pos) (Gg ta tb):=by
 intro pins s σ H Q I h;refine BoolOp_and (bI (V pins s σ H _ I h) λv Z d=>?_);obtain⟨x,H1,U,e,D⟩:=d;obtain⟨c,rfl,D⟩:=D;cases e;refine o5 ?_;cases c with
 |true=>exact Y pins Z σ H1 Q U D |false=>exact⟨.bl false,H1,U,rfl,D⟩
def Gk(U:PE X a ta):PE X (.UnaryOp .Not a pos) (Gh ta):=by
 intro pins s σ H Q I h;refine UnaryOp_ (bI (U pins s σ H _ I h) λv b V=>?_);obtain⟨x,H1,Y,Z,D⟩:=V;obtain⟨c,rfl,D⟩:=D;cases Z;exact not_of (o5 ⟨.bl (!c),H1,Y,rfl,D⟩)
def cY(K:ic)(H:Hp)(a:Addr)(xs:ip):Prop :=
 Rd H a (.lst xs) \/
  ∃(o:Obj) (its:ik) (n:Nat),K.lookup a=↑o/\o.cls=.type "list"/\o.dict=none/\o.data=.seq its n/\its.size<=sizeLine/\aO xs its.toList
def dV(K:ic)(H:Hp)(a:Addr)(xs:ip):Prop :=
 Rd H a (.tup xs) \/
  ∃(o:Obj) (its:ik) (n:Nat),K.lookup a=↑o/\o.cls=.type "tuple"/\o.data=.seq its n/\its.size<=sizeLine/\aO xs its.toList
def uN:Value->Option V
 | .none=>some .non | .bool b=>↑(.bl b) | .int i _=>↑↥i
 | .str x _=>↑(.str x) | .bytes b _=>↑(.byt b) | .float b _=>↑(.flt b) | .ref a=>↑(.ref a) | .type n=>↑(.ty n) |_=>none
def RelV.abs{x:V}(r:RelV x u):uN u=↑x:=by
 cases x with
 |non=>cases r;rfl
 |bl _=>cases r;rfl
 |int _=>obtain⟨t,rfl⟩:=r;rfl |str _=>obtain⟨t,rfl⟩:=r;rfl |byt _=>obtain⟨t,rfl⟩:=r;rfl |flt _=>obtain⟨t,rfl⟩:=r;rfl |ref _=>cases r;rfl
 |ty _=>cases r;rfl
def RelV.inj{x y:V}{u:Value}(r:RelV x u)(q:RelV y u):x=y:=b9 (r.abs.symm.trans q.abs)
def aO.inj{xs ys:ip}{us:gu}(h:aO xs us)(g:aO ys us):xs=ys:=by
 induction h generalizing ys with
 |nil=>cases g;rfl
 |cons r t ih=>cases g with |cons p q=>rw[r.inj p,ih q]
variable{a:Addr}{K:ic}
def dV.of(h:H a=↑(.tup xs)):dV K H a xs:=.inl (.inl h)
def Inv.list(I:Inv X pins σ H s)(h:cY X.K H a xs):∃its:gu,aO xs its/\PlainL s.heap a its.toArray/\xs.length<=sizeLine:=by
 rcases h with h | ⟨o,its,n,hk,hc,hd,hs,hz,r⟩
 ·obtain⟨z,its,n,r,e⟩:=h.ok I.hok
  exact⟨its,r,⟨_,n,e,rfl,rfl,rfl⟩,z⟩
 ·refine⟨its.toList,r,⟨o,n,I.kIn a o hk,hc,hd,by simpa using hs⟩,?_⟩
  have e:=r.length;simp only[qp] at e;omega
def Inv.tuple(I:Inv X pins σ H s)(h:dV X.K H a xs):∃its:gu,aO xs its/\IsTup s.heap a its.toArray/\xs.length<=sizeLine:=by
 rcases h with h | ⟨o,its,n,hk,hc,hs,hz,r⟩
 ·obtain⟨z,its,r,p⟩:=h.ok I.hok
  exact⟨its,r,p,z⟩
 ·refine⟨its.toList,r,⟨o,I.kIn a o hk,hc,n,by simpa using hs⟩,?_⟩
  have e:=r.length;simp only[qp] at e;omega
def Inv.list_inj(I:Inv X pins σ H s)(h:cY X.K H a xs)(h':cY X.K H a ys):xs=ys:=by
 obtain⟨its,r,⟨o,n,e,_,_,d⟩,_⟩:=I.list h;obtain⟨its',D,⟨o',U,e',_,_,d'⟩,_⟩:=I.list h';rw[e] at e';cases e';rw[d] at d';injection d' with d1 _;have:its=its':=by simpa using congrArg Array.toList d1
 subst this;exact r.inj D
def Inv.tuple_inj(I:Inv X pins σ H s)(h:dV X.K H a xs)(h':dV X.K H a ys):xs=ys:=by
 obtain⟨its,r,⟨o,e,_,n,d⟩,_⟩:=I.tuple h;obtain⟨its',D,⟨o',e',_,U,d'⟩,_⟩:=I.tuple h';rw[e] at e';cases e';rw[d] at d';injection d' with d1 _;have:its=its':=by simpa using congrArg Array.toList d1
 subst this;exact r.inj D
abbrev Cx.wish(X:Cx)(E:Value->Shared->Prop):Cx:={ X with xe:=E }
abbrev Cx.nox(X:Cx):Cx:=X.wish λ_ _=>False
def Cx.Ok.wish(ok:X.Ok)(E:Value->Shared->Prop):(X.wish E).Ok :=
 ⟨ok.mod,ok.kind,ok.glob,ok.blt,ok.above,ok.inj,ok.has,ok.cab,ok.hd,ok.frames,ok.stk,ok.exf,ok.bs,ok.bsz,ok.noex,ok.exfs,ok.funs,ok.frf⟩
def Cx.Ok.unwish(ok:(X.wish E).Ok):X.Ok :=
 ⟨ok.mod,ok.kind,ok.glob,ok.blt,ok.above,ok.inj,ok.has,ok.cab,ok.hd,ok.frames,ok.stk,ok.exf,ok.bs,ok.bsz,ok.noex,ok.exfs,ok.funs,ok.frf⟩
def Inv.wish(I:Inv X pins σ H s)(E:Value->Shared->Prop):Inv (X.wish E) pins σ H s:=⟨I.ok.wish E,I.os,I.bare,I.base,I.loc,I.cell,I.free,I.freeC,I.pin,I.hok,I.len⟩
def Inv.unwish(I:Inv (X.wish E) pins σ H s):Inv X pins σ H s:=⟨I.ok.unwish,I.os,I.bare,I.base,I.loc,I.cell,I.free,I.freeC,I.pin,I.hok,I.len⟩
def SP.unwish{D:gM}{f:Flow}{s':Shared}(h:SP (X.wish E) pins D f s'):SP X pins D f s':=by
 cases f with
 |next=>obtain⟨U,H',I,q⟩:=h;exact⟨U,H',I.unwish,q⟩ |brk=>obtain⟨U,H',I,q⟩:=h;exact⟨U,H',I.unwish,q⟩ |cont=>obtain⟨U,H',I,q⟩:=h;exact⟨U,H',I.unwish,q⟩ |ret u=>obtain⟨v,U,H',I,r,q⟩:=h;exact⟨v,U,H',I.unwish,r,q⟩
variable{t:TS}{st:Stmt}
def gJ.nox{st:List Stmt}(h:gJ X.nox st t):gJ X st t:=λpins s σ H D I U =>
 iz (h pins s σ H D (I.wish _) U) (λ_ _ q=>q.unwish) λ_ _ z=>False.elim z
def Gm:TS:=λD σ H=>D.nx σ H
def uO(t u:TS):TS:=λD σ H=>t { D with nx:=u D } σ H
def Gn:gJ X [] Gm:=λ_ _ σ H _ I h=>mj ⟨σ,H,I,h⟩
variable{u:TS}{rest:List Stmt}
def Go(h1:PS X st t)(h2:gJ X rest u):gJ X (st::rest) (uO t u):=by
 intro pins s σ H D I h;refine wpAny_execs_cons (bI (h1 pins s σ H { D with nx:=u D } I h) λf V q=>?_);cases f with
 |next =>
   obtain⟨U,H',Y,q⟩:=q;exact h2 pins V U H' D Y q
 |ret v=>exact q |brk=>exact q |cont=>exact q
def Gp(h1:PS X st t):gJ X [st] t:=by
 intro pins s σ H D I h;refine wpAny_execs_cons (bI (h1 pins s σ H D I h) λf U q=>?_);cases f with
 |next=>exact mj q |ret v=>exact q |brk=>exact q |cont=>exact q
def Inv.quiet(I:Inv X pins σ H s):interactive X.env=false:=by simp[interactive,I.ok.kind]
def Gq(te:TE):TS:=λD σ H=>te σ H λ_ H1=>D.nx σ H1
variable{te:TE}
def A_(U:PE X e te)(V:‹swapsWith e none pos.line X.env=pure false›):PS X (.Expr e pos) (Gq te):=by
 intro pins s σ H D I h;exact wpAny_Expr_any (bI (U pins s σ H _ I h) λv s1 ⟨x,H1,I1,r1,q1⟩=>⟨σ,H1,I1,q1⟩) I.quiet V
def uP(te:TE):TS:=λD σ H=>te σ H D.rt
def n2(U:PE X e te):PS X (.Return ↑e pos) (uP te):=by
 intro pins s σ H D I h;exact wpAny_Return_some (bI (U pins s σ H _ I h) λv s1 ⟨x,H1,I1,r1,q1⟩=>⟨x,σ,H1,I1,r1,q1⟩)
def uQ(c:TT)(t u:TS):TS:=λD σ H=>c σ H λb H1=>if b=true then t D σ H1 else u D σ H1
variable{a c:Expr}{tc:TT}
def Gr{a b:List Stmt}(Z:PT X c tc)(e:gJ X a t)(f:gJ X b u):PS X (.If c a b pos) (uQ tc t u):=by
 intro pins s σ H D I h;refine wpAny_If (bI (Z pins s σ H _ I h) λd U g=>?_);obtain⟨H1,V,Y⟩:=g;cases d with
 |true=>exact e pins U σ H1 D V Y |false=>exact f pins U σ H1 D V Y
def Gs:TS:=λ_ _ _=>False
def Gu:PS X st Gs:=λ_ _ _ _ _ _ h=>h.elim
abbrev TG:=V->St->Hp->(St->Hp->Prop)->Prop
abbrev kB:=ip->St->Hp->(St->Hp->Prop)->Prop
def PG(X:Cx)(D:Expr)(t:TG):Prop :=
 ∀(pins:ii) (s:Shared) (σ:St) (H:Hp) (v:V) (u:Value) (Q:St->Hp->Prop),Inv X pins σ H s->RelV v u->t v σ H Q ->
  wpAny (model X.prog X.w) X.A (assign D X.env u) (λ_ s'=>∃I H',Inv X pins I H' s'/\Q I H') X.xe s
def i_(X:Cx)(ts:h6)(t:kB):Prop :=
 ∀(pins:ii) (s:Shared) (σ:St) (H:Hp) (vs:ip) (us:gu) (Q:St->Hp->Prop),Inv X pins σ H s->aO vs us->t vs σ H Q ->
  wpAny (model X.prog X.w) X.A (assignInOrder ((assignEach ts X.env).map (·.2)) us) (λ_ s'=>∃D H',Inv X pins D H' s'/\Q D H') X.xe s
abbrev iL:=V->V->V->Hp->(Hp->Prop)->Prop
def kL(X:Cx)(t:iL):Prop :=
 ∀(pins:ii) (s:Shared) (σ:St) (H:Hp) (o i v:V) (D I u:Value) (Q:Hp->Prop),Inv X pins σ H s->RelV o D->RelV i I->RelV v u->t o i v H Q ->
  wpAny (model X.prog X.w) X.A (setItem D I u) (λ_ s'=>∃H',Inv X pins σ H' s'/\Q H') X.xe s
abbrev lI:=V->V->Hp->VK->Prop
def qD(X:Cx)(op:Operator)(t:lI):Prop :=
 ∀(pins:ii) (s:Shared) (σ:St) (H:Hp) (x y:V) (v u:Value) (Q:VK),Inv X pins σ H s->RelV x v->RelV y u->t x y H Q ->
  wpAny (model X.prog X.w) X.A (inplaceOp op v u) (EP X pins σ Q) X.xe s
def p9(i:Nat):TG:=λv σ H Q=>Q (σ.set i ↑v) H
def uR(D:X.N.Nodup)(hi:X.N[i]?=↑x)(U:Loc X.env.scope x)(V:X.fn x=true\/X.env.scope.names.lookup x=some .local:=by first |exact .inl rfl |exact .inr rfl |assumption):PG X (.Name x pos) (p9 i):=by
 intro pins s σ H v u Q I r h;exact wpAny_assign_Name (uI I D hi U r (λs' Y=>⟨_,H,Y,h⟩) V)
def n3:kB:=λvs σ H Q=>vs=[]/\Q σ H
def Ba(t:TG)(u:kB):kB:=λvs σ H Q=>∃v r,vs=v::r/\t v σ H λD H'=>u r D H' Q
def Gv:i_ X [] n3:=by
 intro pins s σ H vs us Q I r h;obtain⟨e,h⟩:=h;subst e;cases r;exact assignInOrder_nil ⟨σ,H,I,h⟩
variable{u:Value}{t:TA}{es:h6}
def Gw{t:TG}{u:kB}(h1:PG X e t)(h2:i_ X es u)(U:‹(assignEach (e::es) X.env).map (·.2)=assign e X.env::(assignEach es X.env).map (·.2)›):i_ X (e::es) (Ba t u):=by
 intro pins s σ H vs us Q I r h;obtain⟨v,c,V,h⟩:=h;subst V;cases r with
 |cons r rr =>
   rw[U];refine assignInOrder_cons (bI (h1 pins s σ H _ _ _ I r h) λ_ Y Z=>?_);obtain⟨D,H1,a,b⟩:=Z;exact h2 pins Y D H1 _ _ Q a rr b
def n4(K:ic)(n:Nat)(t:kB):TG:=λv σ H Q=>∃a xs,v=.ref a/\dV K H a xs/\xs.length=n/\t xs σ H Q
variable{k n:Nat}
def Bb{t:kB}(Y:X.calm=true)(h:i_ X es t)(Z:‹(assignEach es X.env).length=n›)(D:‹(assignEach es X.env).findIdx? (·.1)=none›):PG X (.Tuple es k pos) (n4 X.K n t):=by
 intro pins s σ H v u Q I r U;obtain⟨a,xs,c,d,f,U⟩:=U;subst c;cases r;obtain⟨its,V,g,l⟩:=I.tuple d;refine assign_Tuple_tuple (I.ok.hd Y) g (by simp[Z,<-f,V.length]) D λh' i=>?_;have j:Inv X pins σ H { s with heap:=h' }:=I.kept (t':=s.toks) λb o e=>i b o (ce (bw e)) e;exact h pins _ σ H xs _ Q j (by simpa using V) U
def uS(to ti:TE)(t:iL):TG:=λv σ H Q=>to σ H λo H1=>ti σ H1 λi H2=>t o i v H2 λD=>Q σ D
variable{to ti:TE}
def Gx{o i:Expr}{t:iL}(Y:PE X o to)(hi:PE X i ti)(Z:kL X t)(a:∀v,assign (.Subscript o i pos) X.env v=(do
   let D <-holding [v] (eval o X.env);let U <-holding [v,D] (eval i X.env)
   standAt pos
   holding [v,D,U] (setItem D U v)
   release [v,D,U] []):=by intro _;rfl):PG X (.Subscript o i pos) (uS to ti t):=by
 intro pins s σ H v u Q I r h;rw[a];refine az (jc (bI (Y pins s σ H _ I h) λD b V=>?_));obtain⟨x,H1,c,d,e⟩:=V;refine az (jc (bI (hi pins b σ H1 _ c e) λU s2 V=>?_));obtain⟨y,H2,f,g,j⟩:=V;refine az (vy (az (jc (bI (Z pins s2 σ H2 x y v D U u _ f d g r j) λ_ n V=>?_))));obtain⟨k,l,m⟩:=V;exact wpAny_release ⟨σ,k,l,m⟩
def eX(te:TE)(g:TG):TS:=λD σ H=>te σ H λx H1=>g x σ H1 D.nx
variable{tg:Expr}{g:TG}
def Gy(U:PE X e te)(V:PG X tg g)(Y:‹swapsWithSole [tg] e pos.line X.env=pure false›)(Z:‹swappedStores [tg] e X.env=pure none›)(h1:‹(assignEach [tg] X.env).map (·.2)=[assign tg X.env]›):PS X (.Assign [tg] e pos) (eX te g):=by
 intro pins s σ H D I h;refine wpAny_Assign_stores (bI (U pins s σ H _ I h) λv a b=>?_) Y Z;obtain⟨x,H1,c,d,f⟩:=b;rw[h1];exact bI (V pins a σ H1 x v _ c d f) λ_ s2 q=>q
variable{pos':Pos}
def qE(U:X.N.Nodup)(hi:X.N[i]?=↑x)(V:Loc X.env.scope x)(Y:PE X e te)(Z:‹swapsWith e ↑(.Name x pos') pos.line X.env=pure false›)(a:X.fn x=true\/X.env.scope.names.lookup x=some .local:=by first |exact .inl rfl |exact .inr rfl |assumption) :
  PS X (.Assign [.Name x pos'] e pos) (eX te (p9 i)):=by
 intro pins s σ H D I h;refine wpAny_Assign_Name (bI (Y pins s σ H _ I h) λv j b=>?_) Z;obtain⟨y,H1,c,d,f⟩:=b;exact uI c U hi V d (λs2 g=>⟨_,H1,g,f⟩) a
def n7(i:Nat)(te:TE)(ti:lI):TS:=λD σ H=>∃x,σ[i]?=↑↑x/\te σ H λy H1=>ti x y H1 λz H2=>D.nx (σ.set i ↑z) H2
variable{op:Operator}
def Gz{ti:lI}(a:X.N.Nodup)(hi:X.N[i]?=↑x)(V:Loc X.env.scope x)(b:PE X e te)(d:qD X op ti)(f:X.fn x=true\/X.env.scope.names.lookup x=some .local:=by first |exact .inl rfl |exact .inr rfl |assumption) :
  PS X (.AugAssign (.Name x pos') op e pos) (n7 i te ti):=by
 intro pins s σ H D I h;obtain⟨v,g,h⟩:=h;obtain⟨m,j,n⟩:=I.loc;have Y:kK X.env.scope x:=by rcases V with k |k;exact .inl k;exact .inr (.inl k)
 obtain⟨u,r,l⟩:=n i x v hi g Y;refine wpAny_AugAssign_Name ?_;have go:wpAny (model X.prog X.w) X.A (eval e X.env) (λw s₂=>wpAny (model X.prog X.w) X.A (inplaceOp op u w) (λr U=>wpAny (model X.prog X.w) X.A (storeName X.env x r) (λ_=>SP X pins D .next) X.xe U) X.xe s₂) X.xe s:=by
  refine bI (b pins s σ H _ I h) λw o Z=>?_;obtain⟨y,H1,p,q,t⟩:=Z;refine bI (d pins o σ H1 v y u w _ p r q t) λz s2 Z=>?_;obtain⟨J,H2,B,C,E⟩:=Z;exact uI B a hi V C (λK F=>⟨_,H2,F,E⟩) f
 rcases l with⟨hk,G⟩ | ⟨hk,c,hc,hcell⟩
 ·exact wpAny_loadName_local I.ok.kind hk j G go
 ·rcases hk with hk |hk
  ·exact wpAny_loadName_cell I.ok.kind hk hc hcell go
  ·rcases V with k |k
   ·have:X.env.scope.names.lookup x=some .free:=hk
    rw[k] at this;cases this
   ·have:X.env.scope.names.lookup x=some .free:=hk
    rw[k] at this;cases this
def Bc(to ti te:TE)(I:V->V->Hp->VK->Prop)(Y:lI)(U:iL):TS:=λD σ H=>to σ H λo H1=>ti σ H1 λi H2=>I o i H2 λx Z=>te σ Z λy a=>Y x y a λz b=>U o i z b λc=>D.nx σ c
def nA(X:Cx)(t:V->V->Hp->VK->Prop):Prop :=
 ∀(pins:ii) (s:Shared) (σ:St) (H:Hp) (o i:V) (D I:Value) (Q:VK),Inv X pins σ H s->RelV o D->RelV i I->t o i H Q ->
  wpAny (model X.prog X.w) X.A (getItem D I) (EP X pins σ Q) X.xe s
variable{i:Int}
def Be{o i:Expr}{Y:V->V->Hp->VK->Prop}{c:lI}{Z:iL}{d:Pos}(l:PE X o to)(hi:PE X i ti)(m:nA X Y)(n:PE X e te)(p:qD X op c)(q:kL X Z)(r:∀a b new,augStore i a b new=(do holding [new,a,b] (setItem a b new);release [new,a,b] [];pure .next):=by intros;rfl):PS X (.AugAssign (.Subscript o i d) op e pos) (Bc to ti te Y c Z):=by
 intro pins s σ H D I h;refine wpAny_AugAssign_SubscriptAny (bI (l pins s σ H _ I h) λa t U=>?_) r;obtain⟨g,H1,u,j,w⟩:=U;refine bI (hi pins t σ H1 _ u w) λb s2 U=>?_;obtain⟨x2,H2,x,k,y⟩:=U;refine bI (m pins s2 σ H2 g x2 a b _ x j k y) λf z U=>?_;obtain⟨A,B,C,r3,E⟩:=U;refine bI (n pins z σ B _ C E) λv F U=>?_;obtain⟨G,J,K,L,M⟩:=U;refine bI (p pins F σ J A G f v _ K r3 L M) λnew N U=>?_;obtain⟨O,P,Q,R,S⟩:=U;exact bI (q pins N σ P g x2 O a b new _ Q j k R S) λ_ s6 ⟨H6,I6,q6⟩=>⟨σ,H6,I6,q6⟩
def qF(f:Int->Int->Int):lI:=λx y H Q=>∃i j,x=.int i/\y=.int j/\Q ↥(f i j) H
def Bf:qD X .Add (qF λi j=>i+j):=by
 intro pins s σ H x y v u Q I D U h;obtain⟨i,j,V,Y,q⟩:=h;subst V;subst Y;obtain⟨t,rfl⟩:=D;obtain⟨t',rfl⟩:=U;exact iadd_int ⟨.int _,H,I.tok _,⟨_,rfl⟩,q⟩
def G0:qD X .Sub (qF λi j=>i-j):=by
 intro pins s σ H x y v u Q I D U h;obtain⟨i,j,V,Y,q⟩:=h;subst V;subst Y;obtain⟨t,rfl⟩:=D;obtain⟨t',rfl⟩:=U;exact isub_int ⟨.int _,H,I.tok _,⟨_,rfl⟩,q⟩
def G1(c:TT)(tb:TS):TS:=λD σ H=>∃W:Nat->St->Hp->Prop,(∃m,W m σ H)/\∀m σ H,W m σ H ->
 c σ H λb H1=>if b=true then ∃N:St->Hp->Prop,(∀I H',N I H'->∃U,U<m/\W U I H')/\tb { D with nx:=N,ct:=N,bk:=D.nx } σ H1 else D.nx σ H1
variable{body:List Stmt}
def G2{tb:TS}(k:PassesOwn (model X.prog X.w) X.A X.env X.xe)(o:PT X c tc)(p:gJ X body tb):PS X (.While c body [] pos) (G1 tc tb):=by
 intro pins s σ H D I h;obtain⟨W,⟨q,r⟩,turn⟩:=h;refine wpAny_While (codeAny_whileLoop (λn s'=>∃V H',Inv X pins V H' s'/\W n V H') ?_ q ⟨σ,H,I,r⟩);rintro n t ⟨σ1,H1,I1,w1⟩;refine jq k (bI (o pins t σ1 H1 _ I1 (turn n σ1 H1 w1)) λb s2 u=>?_);obtain⟨H2,l,Z⟩:=u;cases b with
 |true =>
   obtain⟨N,m,Z⟩:=Z;rw[ax rfl];refine jq k (bI (p pins s2 σ1 H2 _ l Z) λf x a=>?_);cases f with
   |next =>
     obtain⟨U,Y,d,e⟩:=a;obtain⟨g,i,j⟩:=m U Y e;exact⟨g,i,U,Y,d,j⟩
   |cont =>
     obtain⟨U,Y,d,e⟩:=a;obtain⟨g,i,j⟩:=m U Y e;exact⟨g,i,U,Y,d,j⟩
   |brk=>exact a |ret v=>exact a
 |false =>
   rw[cb cz];exact mj ⟨σ1,H2,l,Z⟩
structure It where
 go:Nat->Hp->Prop
 yld:Nat->Hp->V->Hp->Prop
 stop:Nat->Hp->Prop
def dN(X:Cx)(pins:ii)(H:Hp)(b:Addr):Prop :=
 H b=none/\b≠X.env.locals/\b∉X.fs/\(b∈X.ex\/X.s₀.heap.objs.size<=b)/\(∀x c,X.env.cells.lookup x=↑c->c≠b)/\∀p∈X.pn++pins,p.1≠b
def Inv.fpOk{b:Addr}(I:Inv X pins σ H s)(D:s.heap.objs.size<=b)(U:H' b=none):dN X pins H' b:=by
 refine⟨U,kj (bz I.lt D),I.nofs D,.inr (cy I.sz D),λx c e z=>?_,λp V z=>?_⟩
 ·obtain⟨v,q⟩:=I.cell x c e
  exact absurd (bz q.lt (by rw[z];exact D)) (gv _)
 ·exact absurd (bz (bw (I.pin p V).1) (by rw[z];exact D)) (gv _)
structure za (Cm:Cx->Prop) (P:Program) (w:World) (K:ic) (tg:Expr) (J:It) (fp:gy) (it:Addr) (tn:Nat->Heap->Prop):Prop where
 mem:it∈fp
 obj:∀i h,tn i h->∀b∈fp,∃o,h.get? b=↑o/\∀v,o.data≠.cell v
 keep:∀i h h',tn i h->(∀b∈fp,∀o,h.get? b=↑o->h'.get? b=↑o)->tn i h'
 item:∀(X:Cx),X.prog=P->X.w=w->X.K=K->Cm X->∀(i:Nat) (pins:ii) (s:Shared) (σ:St) (H:Hp) (E:Value->Shared->Prop),Inv X pins σ H s->(∀b∈fp,dN X pins H b)->tn i s.heap->J.go i H ->
  wpAny (model P w) X.A (pyNext (.ref it)) (λr s1=>∃u,r=↑u /\
   wpAny (model P w) X.A (letOwnedTupleGo tg (.ref it) u) (λ_ s2=>∃x H',Inv X pins σ H' s2/\RelV x u/\J.yld i H x H'/\tn (i+1) s2.heap/\∀b∈fp,H' b=none) E s1) E s
 done:∀(X:Cx),X.prog=P->X.w=w->X.K=K->Cm X->∀(i:Nat) (pins:ii) (s:Shared) (σ:St) (H:Hp) (E:Value->Shared->Prop),Inv X pins σ H s->(∀b∈fp,dN X pins H b)->tn i s.heap->J.stop i H ->
  wpAny (model P w) X.A (pyNext (.ref it)) (λr s1=>r=none/\Inv X pins σ H s1) E s
 self:∀(A:Around) (i:Nat) (s:Shared) (Q:Value->Shared->Prop) (E:Value->Shared->Prop),tn i s.heap->Q (.ref it) s->wpAny (model P w) A (pyIter (.ref it)) Q E s
abbrev gZ:=za λX=>X.calm=true
abbrev TI:=St->Hp->(It->Hp->Prop)->Prop
def nB(Cm:Cx->Prop)(X:Cx)(pins:ii)(σ:St)(tg:Expr)(R:It->Hp->Prop)(D:Value)(s2:Shared):Prop :=
 ∃(it:Addr) (fp:gy) (I:Nat->Heap->Prop) (J:It) (H':Hp),D=.ref it/\Inv X pins σ H' s2/\za Cm X.prog X.w X.K tg J fp it I/\I 0 s2.heap/\(∀b∈fp,dN X pins H' b)/\R J H'
def jA(Cm:Cx->Prop)(X:Cx)(tg iter:Expr)(wi:TI):Prop :=
 ∀(pins:ii) (s:Shared) (σ:St) (H:Hp) (R:It->Hp->Prop),Inv X pins σ H s->wi σ H R ->
  wpAny (model X.prog X.w) X.A (eval iter X.env) (λv D=>wpAny (model X.prog X.w) X.A (pyIter v) (nB Cm X pins σ tg R) X.xe D) X.xe s
abbrev PI:=jA λX=>X.calm=true
variable{vs:ip}
def nC{n:String}{vs:ik}{Q:Unit->Shared->Prop}(I:s.heap.get? it=↑o)(U:o.cls=.type n)(hd:o.data=.fields vs)(V:["enumerate", "zip", "dict_itemiterator", "dict_reverseitemiterator", "odict_iterator", "itertools.zip_longest", "itertools.pairwise"].contains n=false)(D:Q () s):wpAny M A (letOwnedTupleGo tg (.ref it) u) Q E s:=by
 unfold letOwnedTupleGo;cases tg <;> first
  |exact dg D
  | (cases u <;> first
      |exact dg D
      | (refine az (wpAny_load I ?_)
         rw[U,hd];show wpAny M A (if (["enumerate", "zip", "dict_itemiterator", "dict_reverseitemiterator", "odict_iterator", "itertools.zip_longest", "itertools.pairwise"].contains n && vs[0]?==↑(rawInt _))=true then _ else _) Q E s;rw[cb (by intro h;rw[V,Bool.false_and] at h;cases h)];exact dg D))
def uT(K:ic)(a:Addr):It :=
 ⟨λi H=>∃xs x,cY K H a xs/\xs[i]?=↑x,λi H x H'=>H'=H/\∀xs,cY K H a xs->xs[i]?=↑x,λi H=>∃xs,cY K H a xs/\xs.length<=i⟩
def uU(K:ic)(a:Addr):It :=
 ⟨λi H=>∃xs x,dV K H a xs/\xs[i]?=↑x,λi H x H'=>H'=H/\∀xs,dV K H a xs->xs[i]?=↑x,λi H=>∃xs,dV K H a xs/\xs.length<=i⟩
def jJ(lo:Int)(n:Nat):It:=⟨λi _=>i<n,λi H x H'=>H'=H/\x=.int (lo+i),λi _=>n<=i⟩
theorem G3(a it:Addr):gZ P w K tg (uT K a) [it] it (λi h=>h.IsListIter it a i) where
 mem:=by simp
 obj:=λi h st b D=>by
  have e:b=it:=by simpa using D
  subst e;obtain⟨o,e,c,d⟩:=st;exact⟨o,e,λv z=>by rw[d] at z;cases z⟩
 keep:=λi h h' st k=>st.at λo e=>k it ⋯ o e
 item:=by
  intro X hP Z f y i pins s σ H E I V st g;subst hP Z f;obtain⟨xs,x,Y,j⟩:=g;obtain⟨its,l,p,A⟩:=I.list Y;obtain⟨u,B,C⟩:=l.get j;obtain⟨m,n,f2,q,r,t⟩:=V it ⋯;refine wpAny_pyNext_list_item st p.isList (x:=u) (by simpa using B) λh' U F=>?_;have G:Inv X pins σ H { s with heap:=h' }:=I.turned (t':=s.toks) (λb o D e=>(F.2 b D).trans e) m n q r t;obtain⟨o,e,c,d⟩:=id U;exact⟨u,rfl,nC (s:={ s with heap:=h' }) e c d (by decide) ⟨x,H,G,C,⟨rfl,λys J=>by rw[I.list_inj J Y];exact j⟩,U,λb D=>(V b D).1⟩⟩
 done:=by
  intro X hP Z f y i pins s σ H E I V st g;subst hP Z f;obtain⟨xs,Y,j⟩:=g;obtain⟨its,l,p,A⟩:=I.list Y;obtain⟨m,n,f2,q,r,t⟩:=V it ⋯;have M:=l.length;exact wpAny_pyNext_list_end (I.ok.hd y) st p.isList (by simp;omega) λh' L=>⟨rfl,I.turned (t':=s.toks) (λb o D e=>L b o D e) m n q r t⟩
 self:=λ_ _ _ _ _ st h=>wpAny_pyIter_listiter st h
theorem G4(a it:Addr):gZ P w K tg (uU K a) [it] it (λi h=>h.IsTupleIter it a i) where
 mem:=by simp
 obj:=λi h st b D=>by
  have e:b=it:=by simpa using D
  subst e;obtain⟨o,e,c,d⟩:=st;exact⟨o,e,λv z=>by rw[d] at z;cases z⟩
 keep:=λi h h' st k=>st.at λo e=>k it ⋯ o e
 item:=by
  intro X hP Z f y i pins s σ H E I V st g;subst hP Z f;obtain⟨xs,x,Y,j⟩:=g;obtain⟨its,l,p,A⟩:=I.tuple Y;obtain⟨u,B,C⟩:=l.get j;obtain⟨m,n,f2,q,r,t⟩:=V it ⋯;refine wpAny_pyNext_tuple_item st (show s.heap.IsTuple a its.toArray from p) (x:=u) (by simpa using B) λh' U F=>?_;have G:Inv X pins σ H { s with heap:=h' }:=I.turned (t':=s.toks) (λb o D e=>(F.2 b D).trans e) m n q r t;obtain⟨o,e,c,d⟩:=id U;exact⟨u,rfl,nC (s:={ s with heap:=h' }) e c d (by decide) ⟨x,H,G,C,⟨rfl,λys J=>by rw[I.tuple_inj J Y];exact j⟩,U,λb D=>(V b D).1⟩⟩
 done:=by
  intro X hP Z f y i pins s σ H E I V st g;subst hP Z f;obtain⟨xs,Y,j⟩:=g;obtain⟨its,l,p,A⟩:=I.tuple Y;obtain⟨m,n,f2,q,r,t⟩:=V it ⋯;have M:=l.length;exact wpAny_pyNext_tuple_end (I.ok.hd y) st (show s.heap.IsTuple a its.toArray from p) (by simp;omega) λh' L=>⟨rfl,I.turned (t':=s.toks) (λb o D e=>L b o D e) m n q r t⟩
 self:=λ_ _ _ _ _ st h=>wpAny_pyIter_tupleiter st h
def nD(it:Addr)(lo:Int)(n:Nat):gZ P w K tg (jJ lo n) [it] it (λi h=>IsRangeIter h it (lo+(i:Nat)*1) ((n:Int)-(i:Nat)) 1) where
 mem:=by simp
 obj:=λi h st b D=>by
  have e:b=it:=by simpa using D
  subst e;exact⟨_,st,λv z=>by
   have m:Data.fields _=Data.cell v:=z;cases m⟩
 keep:=λi h h' st k=>k it ⋯ _ st
 item:=by
  intro X hP Y Z a i pins s σ H E I V st c;subst hP Y Z;obtain⟨d,f,f2,g,j,l⟩:=V it ⋯;have W:=Walks.range (prog:=X.prog) (w:=X.w) (I.ok.hd a) it lo 1 n;refine W.item i s _ _ c st λv h' tk p U kk=>?_;obtain⟨t,rfl⟩:=p;have q:Inv X pins σ H { s with heap:=h',toks:=tk }:=I.turned (λb o D e=>kk b o (by simpa using D) e) d f g j l;refine⟨_,rfl,nC (s:={ s with heap:=h',toks:=tk }) (n:="range_iterator") U rfl rfl (by decide) ⟨.int (lo+i),H,q,⟨t,?_⟩,⟨rfl,rfl⟩,U,λb D=>(V b D).1⟩⟩;rw[Int.mul_one]
 done:=by
  intro X hP Y Z a i pins s σ H E I V st c;subst hP Y Z;obtain⟨d,f,f2,g,j,l⟩:=V it ⋯;exact wpAny_pyNext_range_end (I.ok.hd a) st (by have:n<=i:=c;omega) λh' r=>⟨rfl,I.turned (t':=s.toks) (λb o D e=>r b o D e) d f g j l⟩
 self:=λ_ _ _ _ _ st h=>wpAny_pyIter_rangeiter st h
def G5(K:ic)(tl:TE):TI:=λσ H R=>tl σ H λx H1=>∃a,x=.ref a/\(∃xs,cY K H1 a xs)/\R (uT K a) H1
def uV(K:ic)(tl:TE):TI:=λσ H R=>tl σ H λx H1=>∃a,x=.ref a/\(∃xs,dV K H1 a xs)/\R (uU K a) H1
variable{l:Expr}{tl:TE}
def uW(V:PE X l tl):PI X tg l (G5 X.K tl):=by
 intro pins s σ H R I h;refine bI (V pins s σ H _ I h) λv D Y=>?_;obtain⟨x,H1,U,Z,c⟩:=Y;obtain⟨a,e,⟨xs,d⟩,q⟩:=c;subst e;cases Z;obtain⟨its,g,p,i⟩:=U.list d;refine o6 p.isList ?_;refine⟨D.heap.objs.size,[D.heap.objs.size],_,_,H1,rfl,U.kept (t':=D.toks) λb o e=>av _ e,G3 a _,⟨_,cj _ rfl,rfl,rfl⟩,λb f=>?_,q⟩;have e:b=D.heap.objs.size:=by simpa using f
 subst e;exact U.fpOk (b6 _) (U.hok.fresh (b6 _))
def G6(V:PE X l tl):PI X tg l (uV X.K tl):=by
 intro pins s σ H R I h;refine bI (V pins s σ H _ I h) λv D Y=>?_;obtain⟨x,H1,U,Z,c⟩:=Y;obtain⟨a,e,⟨xs,d⟩,q⟩:=c;subst e;cases Z;obtain⟨its,g,p,i⟩:=U.tuple d;refine wpAny_pyIter_tuple (show D.heap.IsTuple a its.toArray from p) ?_;refine⟨D.heap.objs.size,[D.heap.objs.size],_,_,H1,rfl,U.kept (t':=D.toks) λb o e=>av _ e,G4 a _,⟨_,cj _ rfl,rfl,rfl⟩,λb f=>?_,q⟩;have e:b=D.heap.objs.size:=by simpa using f
 subst e;exact U.fpOk (b6 _) (U.hok.fresh (b6 _))
variable{v:Value}{Cm:Cx->Prop}
def Bg(hT:∀(it:Addr) (lo:Int) (n:Nat),za Cm X.prog X.w X.K tg (jJ lo n) [it] it (λi h=>IsRangeIter h it (lo+(i:Nat)*1) ((n:Int)-(i:Nat)) 1)){R:It->Hp->Prop}{lo hi:Int}{t u v:Tok}{tk:Nat}(I:Inv X pins σ H s)(h1:-(2 ^ 62)<=lo)(h2:lo<2 ^ 62)(U:-(2 ^ 62)<=hi)(V:hi<2 ^ 62)(q:R (jJ lo (hi-lo).toNat) H):wpAny (model X.prog X.w) X.A (pyIter (.ref s.heap.objs.size)) (nB Cm X pins σ tg R) E { s with heap:=s.heap.push { cls:=.type "range",data:=.fields #[.int lo t,.int hi u,.int 1 v] },toks:=tk }:=by
 refine wpAny_pyIter_range (IsRange.new ..) (small_one h1 h2 U V) ?_;have D:Inv X pins σ H { s with heap:=s.heap.push { cls:=.type "range",data:=.fields #[.int lo t,.int hi u,.int 1 v] },toks:=tk }:=I.kept λb o e=>av _ e;refine⟨(s.heap.push { cls:=.type "range",data:=.fields #[.int lo t,.int hi u,.int 1 v] }).objs.size,[(s.heap.push { cls:=.type "range",data:=.fields #[.int lo t,.int hi u,.int 1 v] }).objs.size],_,_,H,rfl,
  D.kept (t':=tk) λb o e=>av _ e,hT _ lo (hi-lo).toNat,?_,λb Y=>?_,q⟩
 ·have Z:lo+((0:Nat):Int)*1=lo:=by simp
  have a:(((hi-lo).toNat:Nat):Int)-((0:Nat):Int)=Builtin.Range.rangeSize lo hi 1:=by rw[rangeSize_one];split <;> omega
  show IsRangeIter _ _ (lo+((0:Nat):Int)*1) ((((hi-lo).toNat:Nat):Int)-((0:Nat):Int)) 1;rw[Z,a];exact cj _ rfl
 ·have e:b=(s.heap.push { cls:=.type "range",data:=.fields #[.int lo t,.int hi u,.int 1 v] }).objs.size:=by simpa using Y
  subst e;exact D.fpOk (b6 _) (D.hok.fresh (b6 _))
def G7(ta:TA):TI:=λσ H R=>ta σ H λvs H1=>∃j:Int,vs=[↥j]/\-(2 ^ 62)<=j/\j<2 ^ 62/\R (jJ 0 j.toNat) H1
def G8(ta:TA):TI:=λσ H R=>ta σ H λvs H1=>∃i j:Int,vs=[↥i,↥j]/\(-(2 ^ 62)<=i/\i<2 ^ 62/\-(2 ^ 62)<=j/\j<2 ^ 62)/\R (jJ i (j-i).toNat) H1
variable{p:Pos}
def G9(hT:∀(it:Addr) (lo:Int) (n:Nat),za Cm X.prog X.w X.K tg (jJ lo n) [it] it (λi h=>IsRangeIter h it (lo+(i:Nat)*1) ((n:Int)-(i:Nat)) 1)){ta:TA}(U:Gl X "range")(V:X.mg "range" = none)(Y:PA X [a] ta)(Z:‹starEach [a] X.env=[(false,eval a X.env)]›):jA Cm X tg (.Call (.Name "range" p) [a] [] pos) (G7 ta):=by
 intro pins s σ H R I h;refine Call_ (wg I U V boot_range (f6 (bI (Y pos pins s σ H _ I h) λus g b=>?_) Z rfl));obtain⟨vs,H1,c,d,D⟩:=b;obtain⟨j,e,D,f,q⟩:=D;subst e;cases d with
 |cons r rr =>
   cases rr;obtain⟨t,rfl⟩:=r;exact call_range_1 (Bg hT c (by omega) (by omega) D f (by simpa using q))
def GA{ta:TA}(V:Gl X "range")(Y:X.mg "range" = none)(Z:PA X [a,b] ta)(c:‹starEach [a,b] X.env=[(false,eval a X.env),(false,eval b X.env)]›)(D:‹starEach [b] X.env=[(false,eval b X.env)]›) :
  PI X tg (.Call (.Name "range" p) [a,b] [] pos) (G8 ta):=by
 intro pins s σ H R I h;refine Call_ (wg I V Y boot_range (f6 (bI (Z pos pins s σ H _ I h) λus o d=>?_) (by rw[c,D]) (by rw[D];rfl)));obtain⟨vs,H1,f,g,U⟩:=d;obtain⟨i,j,e,⟨U,k,l,m⟩,q⟩:=U;subst e;cases g with
 |cons r rr =>
   cases rr with
   |cons r' rr =>
     cases rr;obtain⟨t,rfl⟩:=r;obtain⟨t',rfl⟩:=r';exact call_range_2 (Bg (λit lo n=>nD it lo n) f U k l m q)
def uX(wi:TI)(g:TG)(tb:TS):TS:=λD σ H=>wi σ H λJ H1=>∃W:Nat->Nat->St->Hp->Prop,(∃m,W 0 m σ H1)/\∀i m σ H,W i m σ H ->
 (J.stop i H/\D.nx σ H)\/(J.go i H/\∃N:St->Hp->Prop,(∀I H',N I H'->∃V,V<m/\W (i+1) V I H')/\∀x H',J.yld i H x H'->g x σ H' λU H2=>tb { D with nx:=N,ct:=N,bk:=D.nx } U H2)
def nE(fp:gy)(h:Heap):ii:=fp.filterMap λb=>(h.get? b).map λo=>(b,o)
variable{fp:gy}
def qG{b:Addr}(D:b∈fp)(e:h.get? b=↑o):(b,o)∈nE fp h:=rj.mpr ⟨b,D,by rw[e];rfl⟩
def GB{p:Addr×Obj}(D:p∈nE fp h):p.1∈fp/\h.get? p.1=↑p.2:=by
 obtain⟨b,I,e⟩:=rj.mp D;cases q:h.get? b with
 |none=>rw[q] at e;cases e
 |some o =>
   rw[q] at e;have e':(b,o)=p:=b9 e;subst e';exact⟨I,q⟩
def Inv.pinned(I:Inv X pins σ H s)(U:∀b∈fp,dN X pins H b)(V:∀b∈fp,∃o,s.heap.get? b=↑o/\∀v,o.data≠.cell v):Inv X (pins++nE fp s.heap) σ H s :=
 I.pins_of λp Y=>(dc.mp Y).elim (λz=>I.pin p (cg _ z)) λz=>by
  obtain⟨D,e⟩:=GB z;obtain⟨Z,a,f2,_⟩:=U p.1 D;obtain⟨o,e',d⟩:=V p.1 D;rw[e] at e';cases e';exact⟨e,Z,a,f2,d⟩
def Inv.unpinned{pins pl:ii}(I:Inv X (pins++pl) σ H s):Inv X pins σ H s:=I.pins_of λp D=>I.pin p (cg _ (d8 _ D))
theorem Bh{iter:Expr}{wi:TI}{tb:TS}(p:PassesOwn (model X.prog X.w) X.A X.env X.xe)(G:X.calm=true)(hi:PI X tg iter wi)(P:PG X tg g)(V:gJ X body tb)(Q:∀x,foldedSetIterable iter X.env x=pure x:=by intro _;rfl):PS X (.For tg iter body [] pos) (uX wi g tb):=by
 intro pins s σ H D I h;refine wpAny_For (bI (hi pins s σ H _ I h) λv s1 h1=>bI h1 λR s2 h2=>?_) Q;obtain⟨it,fp,K,J,H2,e,S,T,y,f2,W,⟨m0,w0⟩,turn⟩:=h2;subst e;have Y:∀ {H':Hp},(∀b∈fp,H' b=none)->∀b∈fp,dN X pins H' b:=λhn b V=>⟨hn b V,(f2 b V).2⟩;refine codeAny_forLoop_any (λn s'=>∃i Z H',Inv X pins Z H' s'/\K i s'.heap/\(∀b∈fp,H' b=none)/\W i n Z H') ?_ m0 ⟨0,σ,H2,S,y,λb V=>(f2 b V).1,w0⟩;rintro n L ⟨i,σ3,H3,I3,st3,fr3,w3⟩;rcases turn i n σ3 H3 w3 with⟨q,qn⟩ | ⟨go,N,hN,step⟩
 ·refine jq p (bI (T.done X rfl rfl rfl G i pins L σ3 H3 X.xe I3 (Y fr3) st3 q) λr s4 k=>?_)
  obtain⟨z,I4⟩:=k;subst z;exact mj ⟨σ3,H3,I4,qn⟩
 ·refine jq p (bI (T.item X rfl rfl rfl G i pins L σ3 H3 X.xe I3 (Y fr3) st3 go) λr s4 k=>?_)
  obtain⟨u,z,h4⟩:=k;subst z;refine jq p (bI h4 λ_ M k=>?_);obtain⟨x,O,I5,r5,y5,l,B⟩:=k;have C:=I5.pinned (Y B) (T.obj _ _ l);refine jq p (bI (P _ M σ3 O x u _ C r5 (step x O y5)) λ_ s6 k=>?_);obtain⟨E,H6,I6,q6⟩:=k;refine jq p (bI (V _ s6 E H6 _ I6 q6) λf F j=>?_);have again:∀ {U:St} {a:Hp},Inv X (pins++nE fp M.heap) U a F->N U a->∃m,m<n/\∃i Z H',Inv X pins Z H' F/\K i F.heap/\(∀b∈fp,H' b=none)/\W i m Z H':=λ{U a} c t=>by
   obtain⟨m',hm,w7⟩:=hN U a t;refine⟨m',hm,i+1,U,a,c.unpinned,T.keep _ _ _ l λb V o e=>(c.pin (b,o) (cg _ (cg _ (qG V e)))).1,λb V=>?_,w7⟩;obtain⟨o,e,d⟩:=T.obj _ _ l b V;exact(c.pin (b,o) (cg _ (cg _ (qG V e)))).2.1
  cases f with
  |next=>obtain⟨U,a,c,t⟩:=j;exact again c t |cont=>obtain⟨U,a,c,t⟩:=j;exact again c t |brk=>obtain⟨U,a,c,j⟩:=j;exact⟨U,a,c.unpinned,j⟩ |ret v=>obtain⟨x7,U,a,c,r7,j⟩:=j;exact⟨x7,U,a,c.unpinned,r7,j⟩
abbrev R2:=V->V->Hp->VK->Prop
def fN(X:Cx)(f:Value->Value->Sem Value)(r:R2):Prop :=
 ∀(pins:ii) (s:Shared) (σ:St) (H:Hp) (x y:V) (v u:Value) (Q:VK),Inv X pins σ H s->RelV x v->RelV y u->r x y H Q ->
  wpAny (model X.prog X.w) X.A (f v u) (EP X pins σ Q) X.xe s
def uY(X:Cx)(f:Value->Sem Value)(r:V->Hp->VK->Prop):Prop :=
 ∀(pins:ii) (s:Shared) (σ:St) (H:Hp) (x:V) (v:Value) (Q:VK),Inv X pins σ H s->RelV x v->r x H Q ->
  wpAny (model X.prog X.w) X.A (f v) (EP X pins σ Q) X.xe s
def rq(X:Cx)(f:Value)(r:ip->Hp->VK->Prop):Prop :=
 ∀(pins:ii) (s:Shared) (σ:St) (H:Hp) (xs:ip) (us:gu) (Q:VK),Inv X pins σ H s->aO xs us->r xs H Q ->
  wpAny (model X.prog X.w) X.A (call f us) (EP X pins σ Q) X.xe s
def nF(r:R2)(ta tb:TE):TE:=λσ H Q=>ta σ H λx H1=>tb σ H1 λy H2=>r x y H2 Q
def GC(r:V->Hp->VK->Prop)(ta:TE):TE:=λσ H Q=>ta σ H λx H1=>r x H1 Q
def rI(C:Int->Int->Prop)(g:Int->Int->V):R2:=λx y H Q=>∃i j,x=.int i/\y=.int j/\C i j/\Q (g i j) H
def hL(g:Int->Int->V):R2:=λx y H Q=>∃i j,x=.int i/\y=.int j/\Q (g i j) H
def rU(g:Int->V):V->Hp->VK->Prop:=λx H Q=>∃i,x=.int i/\Q (g i) H
variable{f:Value->Value->Sem Value}
def kM(Y:PE X a ta)(Z:PE X b tb){R:V->V->Hp->Prop}(I:Inv X pins σ H s)(h:ta σ H λx H1=>tb σ H1 λy H2=>R x y H2)(c:∀v u s2 x y H2,Inv X pins σ H2 s2->RelV x v->RelV y u->R x y H2->wpAny (model X.prog X.w) X.A (f v u) Q X.xe s2) :
  wpAny (model X.prog X.w) X.A (eval a X.env) (λv D=>wpAny (model X.prog X.w) X.A (eval b X.env) (λu s₂=>wpAny (model X.prog X.w) X.A (f v u) Q X.xe s₂) X.xe D) X.xe s:=by
 refine bI (Y pins s σ H _ I h) λv d U=>?_;obtain⟨x,H1,e,g,i⟩:=U;refine bI (Z pins d σ H1 _ e i) λu s2 U=>?_;obtain⟨y,H2,j,k,l⟩:=U;exact c v u s2 x y H2 j g k l
variable{r:R2}
def qH(D:fN X (binaryOp op) r)(U:PE X a ta)(V:PE X b tb):PE X (.BinOp a op b pos) (nF r ta tb):=by
 intro pins s σ H Q I h;exact wpAny_BinOp (kM U V I h λv u s2 x y H2 Y Z c q=>D pins s2 σ H2 x y v u Q Y Z c q)
variable{op:CmpOp}
def Bi{op:UnaryOp}{r:V->Hp->VK->Prop}(D:uY X (unaryOp op) r)(U:PE X a ta):PE X (.UnaryOp op a pos) (GC r ta):=by
 intro pins s σ H Q I h;exact UnaryOp_ (bI (U pins s σ H _ I h) λv s1 ⟨x,H1,I1,r1,q1⟩=>D pins s1 σ H1 x v Q I1 r1 q1)
variable{g:Int->Int->Int}{C:Addr}
def qI{C:Int->Int->Prop}(rule:∀(i j:Int) (t u:Tok) (s:Shared) (Q:Value->Shared->Prop) (E:Value->Shared->Prop),C i j->Q (.int (g i j) s.toks) { s with toks:=s.toks+1 }->wpAny (model X.prog X.w) X.A (f (.int i t) (.int j u)) Q E s) :
  fN X f (rI C λi j=>.int (g i j)):=by
 intro pins s σ H x y v u Q I D U h;obtain⟨i,j,rfl,rfl,V,q⟩:=h;obtain⟨t,rfl⟩:=D;obtain⟨t',rfl⟩:=U;exact rule i j t t' s _ _ V ⟨.int (g i j),H,I.tok _,⟨_,rfl⟩,q⟩
def nG(rule:∀(i j:Int) (t u:Tok) (s:Shared) (Q:Value->Shared->Prop) (E:Value->Shared->Prop),Q (.int (g i j) s.toks) { s with toks:=s.toks+1 }->wpAny (model X.prog X.w) X.A (f (.int i t) (.int j u)) Q E s) :
  fN X f (hL λi j=>.int (g i j)):=by
 intro pins s σ H x y v u Q I D U h;obtain⟨i,j,rfl,rfl,q⟩:=h;obtain⟨t,rfl⟩:=D;obtain⟨t',rfl⟩:=U;exact rule i j t t' s _ _ ⟨.int (g i j),H,I.tok _,⟨_,rfl⟩,q⟩
def kN{g:Int->Int->Bool}(rule:∀(i j:Int) (t u:Tok) (s:Shared) (Q:Value->Shared->Prop) (E:Value->Shared->Prop),Q (.bool (g i j)) s->wpAny (model X.prog X.w) X.A (f (.int i t) (.int j u)) Q E s) :
  fN X f (hL λi j=>.bl (g i j)):=by
 intro pins s σ H x y v u Q I D U h;obtain⟨i,j,rfl,rfl,q⟩:=h;obtain⟨t,rfl⟩:=D;obtain⟨t',rfl⟩:=U;exact rule i j t t' s _ _ ⟨.bl (g i j),H,I,rfl,q⟩
def nH(i j:Int):Prop:=0<j/\j<1073741824
def kO(i j:Int):Prop:=0<=j/\j<=1000000/\i.natAbs<2 ^ 64
def jK(i j:Int):Prop:=(-(2 ^ 64)<i/\i<2 ^ 64)\/(-(2 ^ 64)<j/\j<2 ^ 64)
def jK.ok(h:jK i j):IntMulOk i j:=by
 rcases h with⟨h1,h2⟩ | ⟨h1,h2⟩
 ·exact .of_left (intBits_le_64 h1 h2)
 ·exact .of_right (intBits_le_64 h1 h2)
def GD:fN X (binaryOp .Add) (hL λi j=>.int (i+j)):=nG λ_ _ _ _ _ _ _ q=>add_int q
def Bj:fN X (binaryOp .Sub) (hL λi j=>.int (i-j)):=nG λ_ _ _ _ _ _ _ q=>sub_int q
def GE:fN X (binaryOp .Mult) (rI jK λi j=>.int (i*j)):=qI λ_ _ _ _ _ _ _ D q=>mul_int q D.ok
def GF:fN X (binaryOp .FloorDiv) (rI nH λi j=>.int (i / j)):=qI λi j _ _ _ _ _ D q=>by
 have h1:(0:Int)<j:=D.1;have h2:j<1073741824:=D.2;exact floordiv_int (by omega) (by rw[Int.fdiv_eq_ediv_of_nonneg i (by omega)];exact q) (.inl (PyProof.noPylong_small (by omega)))
def GG:fN X (binaryOp .Mod) (rI (λ_ j=>0<j) λi j=>.int (i % j)):=qI λi j _ _ _ _ _ D q=>by
 have h1:(0:Int)<j:=D;exact mod_int' (by omega) (by rw[Int.fmod_eq_emod_of_nonneg i (by omega)];exact q)
def GH:fN X (binaryOp .Pow) (rI kO λi j=>.int (i ^ j.toNat)):=qI λ_ _ _ _ _ _ _ D q=>pow_int_small D.1 D.2.1 D.2.2 q
variable{f:Addr}
def GI{f:Value->Sem Value}{g:Int->Int}(rule:∀(i:Int) (t:Tok) (s:Shared) (Q:Value->Shared->Prop) (E:Value->Shared->Prop),Q (.int (g i) s.toks) { s with toks:=s.toks+1 }->wpAny (model X.prog X.w) X.A (f (.int i t)) Q E s) :
  uY X f (rU λi=>.int (g i)):=by
 intro pins s σ H x v Q I D h;obtain⟨i,rfl,q⟩:=h;obtain⟨t,rfl⟩:=D;exact rule i t s _ _ ⟨.int (g i),H,I.tok _,⟨_,rfl⟩,q⟩
def Bl:uY X (unaryOp .USub) (rU λi=>.int (-i)):=GI λ_ _ _ _ _ q=>neg_int q
def nI:V->V->Bool
 | .non,.non=>true | .non,.int _=>true | .int _,.non=>true | .non,.bl _=>true | .bl _,.non=>true | .non,.str _=>true | .str _,.non=>true | .int _,.int _=>true | .bl _,.bl _=>true | .str _,.str _=>true | .byt _,.byt _=>true | .int _,.str _=>true | .str _,.int _=>true | .bl _,.str _=>true | .str _,.bl _=>true |_,_=>false
def Bm:R2:=λx y H Q=>nI x y=true/\Q (.bl (decide (x=y))) H
def Bo:R2:=λx y H Q=>nI x y=true/\Q (.bl (!decide (x=y))) H
def Bp:decide (V.int i=V.int j)=(i==j):=by
 rw[o7];simp
def Bq{i j:Bool}:decide (V.bl i=V.bl j)=(i==j):=by
 rw[o7];simp
def Br{i j:Str}:decide (V.str i=V.str j)=(i==j):=by
 rw[o7];simp
def Bs{i j:Array UInt8}:decide (V.byt i=V.byt j)=(i.toList==j.toList):=by
 rw[o7];cases i;cases j;simp
def mf{Q:VK}{k k':Bool}(I:Inv X pins σ H s)(q:Q (.bl k) H)(e:k=k'):EP X pins σ Q (.bool k') s:=by
 subst e;exact⟨.bl k,H,I,rfl,q⟩
def GJ:fN X (compareOp .Eq) Bm:=by
 intro pins s σ H x y v u Q I V D h;obtain⟨U,q⟩:=h;cases x with
 |non =>
   cases V;cases y with
   |non=>cases D;exact PySem.EqNone.eq_none_none (mf I q ⋯)
   |bl j=>cases D;exact PySem.EqNone.eq_none_bool (mf I q ⋯)
   |int j=>obtain⟨t',rfl⟩:=D;exact PySem.EqNone.eq_none_int (mf I q ⋯) |str j=>obtain⟨t',rfl⟩:=D;exact PySem.EqNone.eq_none_str (mf I q ⋯) |_=>exact absurd (show false=true from U) cz
 |bl i =>
   cases V;cases y with
   |non=>cases D;exact PySem.EqNone.eq_bool_none (mf I q ⋯)
   |bl j=>cases D;exact eq_bool (mf I q Bq)
   |str j=>obtain⟨t',rfl⟩:=D;exact PySem.EqMixed.eq_bool_str (mf I q ⋯) |_=>exact absurd (show false=true from U) cz
 |int i =>
   obtain⟨t,rfl⟩:=V;cases y with
   |non=>cases D;exact PySem.EqNone.eq_int_none (mf I q ⋯)
   |int j=>obtain⟨t',rfl⟩:=D;exact eq_int (mf I q Bp) |str j=>obtain⟨t',rfl⟩:=D;exact PySem.EqMixed.eq_int_str (mf I q ⋯) |_=>exact absurd (show false=true from U) cz
 |str i =>
   obtain⟨t,rfl⟩:=V;cases y with
   |non=>cases D;exact PySem.EqNone.eq_str_none (mf I q ⋯)
   |bl j=>cases D;exact PySem.EqMixed.eq_str_bool (mf I q ⋯)
   |int j=>obtain⟨t',rfl⟩:=D;exact PySem.EqMixed.eq_str_int (mf I q ⋯) |str j=>obtain⟨t',rfl⟩:=D;exact eq_str (mf I q Br) |_=>exact absurd (show false=true from U) cz
 |byt i =>
   obtain⟨t,rfl⟩:=V;cases y with
   |byt j=>obtain⟨t',rfl⟩:=D;exact PySem.W.eq_bytes (mf I q Bs) |_=>exact absurd (show false=true from U) cz
 |_=>cases y <;> exact absurd (show false=true from U) cz
def GK:fN X (compareOp .NotEq) Bo:=by
 intro pins s σ H x y v u Q I V D h;obtain⟨U,q⟩:=h;cases x with
 |non =>
   cases V;cases y with
   |non=>cases D;exact PySem.EqNone.ne_none_none (mf I q ⋯)
   |bl j=>cases D;exact PySem.EqNone.ne_none_bool (mf I q ⋯)
   |int j=>obtain⟨t',rfl⟩:=D;exact PySem.EqNone.ne_none_int (mf I q ⋯) |str j=>obtain⟨t',rfl⟩:=D;exact PySem.EqNone.ne_none_str (mf I q ⋯) |_=>exact absurd (show false=true from U) cz
 |bl i =>
   cases V;cases y with
   |non=>cases D;exact PySem.EqNone.ne_bool_none (mf I q ⋯)
   |bl j=>cases D;exact ne_bool (mf I q (congrArg not Bq))
   |str j=>obtain⟨t',rfl⟩:=D;exact PySem.EqMixed.ne_bool_str (mf I q ⋯) |_=>exact absurd (show false=true from U) cz
 |int i =>
   obtain⟨t,rfl⟩:=V;cases y with
   |non=>cases D;exact PySem.EqNone.ne_int_none (mf I q ⋯)
   |int j=>obtain⟨t',rfl⟩:=D;exact ne_int (mf I q (congrArg not Bp)) |str j=>obtain⟨t',rfl⟩:=D;exact PySem.EqMixed.ne_int_str (mf I q ⋯) |_=>exact absurd (show false=true from U) cz
 |str i =>
   obtain⟨t,rfl⟩:=V;cases y with
   |non=>cases D;exact PySem.EqNone.ne_str_none (mf I q ⋯)
   |bl j=>cases D;exact PySem.EqMixed.ne_str_bool (mf I q ⋯)
   |int j=>obtain⟨t',rfl⟩:=D;exact PySem.EqMixed.ne_str_int (mf I q ⋯) |str j=>obtain⟨t',rfl⟩:=D;exact ne_str (mf I q (congrArg not Br)) |_=>exact absurd (show false=true from U) cz
 |byt i =>
   obtain⟨t,rfl⟩:=V;cases y with
   |byt j=>obtain⟨t',rfl⟩:=D;exact PySem.W.ne_bytes (mf I q (congrArg not Bs)) |_=>exact absurd (show false=true from U) cz
 |_=>cases y <;> exact absurd (show false=true from U) cz
def GL:fN X (compareOp .Lt) (hL λi j=>.bl (decide (i<j))):=kN λ_ _ _ _ _ _ _ q=>lt_int q
def Bt:fN X (compareOp .Gt) (hL λi j=>.bl (decide (j<i))):=kN λ_ _ _ _ _ _ _ q=>gt_int q
def GM:fN X (compareOp .GtE) (hL λi j=>.bl (decide (j<=i))):=kN λ_ _ _ _ _ _ _ q=>ge_int q
def zi(b:Expr)(h:op≠.In:=by decide)(h2:op≠.NotIn:=by decide):behindInMarks op b=false:=by
 have D:(op==CmpOp.In)=false:=by cases op <;> first |rfl |exact absurd rfl h
 have I:(op==CmpOp.NotIn)=false:=by cases op <;> first |rfl |exact absurd rfl h2
 cases b <;> simp[behindInMarks,D,I]
def GN(D:fN X (compareOp op) r)(U:PE X a ta)(V:PE X b tb)(Y:behindInMarks op b=false):PE X (.Compare a [op] [b] pos) (nF r ta tb):=by
 intro pins s σ H Q I h;exact wpAny_Compare1 (kM U V I h λv u s2 x y H2 Z c d q=>D pins s2 σ H2 x y v u Q Z c d q) Y
def Bu(t:TE):TT:=λσ H Q=>t σ H λx H'=>∃k,x=.bl k/\Q k H'
def GO(D:fN X (compareOp op) r)(U:PE X a ta)(V:PE X b tb)(Y:behindInMarks op b=false):PT X (.Compare a [op] [b] pos) (Bu (nF r ta tb)):=by
 intro pins s σ H Q I h;refine wpAny_isTrue_Compare1 (bI (U pins s σ H _ I h) λv s1 ⟨x,H1,I1,r1,q1⟩=>bI (V pins s1 σ H1 _ I1 q1) λu s2 ⟨y,H2,I2,r2,q2⟩ =>
  bI (D pins s2 σ H2 x y v u _ I2 r1 r2 q2) λc s3 ⟨z,H3,I3,r3,k,e,q3⟩=>?_) Y
 subst e;cases r3;exact o5 ⟨H3,I3,q3⟩
def lJ:(sizeLine:Nat)<2 ^ 63:=by rw[ie];decide
variable{x:V}
def y9(r:aO [x] us):∃u,us=[u]/\RelV x u:=by
 cases r with
 |cons r1 r2=>cases r2;exact⟨_,rfl,r1⟩
variable{y:V}
def lK(r:aO [x,y] us):∃u D,us=[u,D]/\RelV x u/\RelV y D:=by
 cases r with
 |cons r1 r2 =>
   cases r2 with
   |cons r3 r4=>cases r4;exact⟨_,_,rfl,r1,r3⟩
def GP(U:X.calm=true):rq X (.builtin "max") (λxs H Q=>∃i j,xs=[↥i,↥j]/\Q ↥(if j > i then j else i) H):=by
 intro pins s σ H xs us Q I r h;obtain⟨i,j,rfl,q⟩:=h;obtain⟨u,V,rfl,⟨t,rfl⟩,⟨t',rfl⟩⟩:=lK r;refine max_two_ints (I.ok.hd U) λh' tk k=>⟨_,H,I.kept k,?_,q⟩;by_cases D:j > i
 ·rw[ax D,ax D];exact⟨_,rfl⟩
 ·rw[cb D,cb D];exact⟨_,rfl⟩
def GQ(U:X.calm=true):rq X (.builtin "min") (λxs H Q=>∃i j,xs=[↥i,↥j]/\Q ↥(if j<i then j else i) H):=by
 intro pins s σ H xs us Q I r h;obtain⟨i,j,rfl,q⟩:=h;obtain⟨u,V,rfl,⟨t,rfl⟩,⟨t',rfl⟩⟩:=lK r;refine min_two_ints (I.ok.hd U) λh' tk k=>⟨_,H,I.kept k,?_,q⟩;by_cases D:j<i
 ·rw[ax D,ax D];exact⟨_,rfl⟩
 ·rw[cb D,cb D];exact⟨_,rfl⟩
structure g_ (h:Heap) (x dx C:Addr) (mA:Str->gx):Prop where
 obj:h.get? x=↑(PySem.W.instObj C dx)
 ns:h.Ns1 dx mA
 ne:dx≠x
variable{dx:Addr}{mA:Str->gx}
def GR(n:h.Ns1 dx mA):∃od,h.get? dx=↑od/\∀name,PySem.W.lookIn name od=↑(mA name):=by
 obtain⟨o,es,b,I,hd,U,_,V⟩:=n;refine⟨o,I,λname=>?_⟩;have e:=V name;unfold nsFind findBy at e;rw[<-Array.find?_toList] at e;unfold PySem.W.lookIn;rw[hd];dsimp only;split
 ·rename_i y q
  rw[q] at e;exact congrArg some e
 ·rename_i q
  rw[q] at e;have a:es.toList.any (·.refKey)=false:=by
   rw[List.any_eq_false];intro y Y;obtain⟨z,t,D⟩:=U y (Array.mem_toList_iff.mp Y);simp[DictEntry.refKey,D]
  have Z:¬es.toList.any (·.refKey)=true:=by rw[a];exact cz
  rw[cb Z];exact congrArg some e
variable{x:Addr}
def g_.look(I:g_ h x dx C mA):∃od,PySem.W.InstAt h x (PySem.W.instObj C dx) C ↑od/\∀name,PySem.W.lookIn name od=↑(mA name) :=
 let ⟨od,D,U⟩:=GR I.ns
 ⟨od,⟨I.obj,rfl,rfl,D⟩,U⟩
variable{prog:Program}{name:Str}
def GS{D:Bool}(X:K.In s.heap)(I:g_ s.heap x dx C mA)(V:PySem.W.plainGet K C name=true)(Y:PySem.W.hasDictIn K C=true)(Z:PySem.W.findIn K (.ref C) name=↑none)(a:mA name=↑v)(U:PySem.W.handedIn v=true)(h:Q v { s with toks:=s.toks+1 }) :
  wpAny (model prog w) A (getAttr (.ref x) name D) Q E s:=by
 obtain⟨od,J,b⟩:=I.look;exact PySem.W.get_value X J (qo V).1 (PySem.W.findObj_own Y Z rfl (by rw[b,a])) U h
def GT{pl:Sem Bool}{Q:Value×gu->Shared->Prop}(X:K.In s.heap)(I:g_ s.heap x dx C mA)(D:PySem.W.plainGet K C name=true)(U:PySem.W.findIn K (.ref C) name=↑↑(.ref f))(V:PySem.W.isFn K (.ref f)=true)(Y:mA name=none)(h:Q (.ref f,[.ref x]) s) :
  wpAny (model prog w) A (getMethod (.ref x) name pl) Q E s:=by
 obtain⟨od,J,Z⟩:=I.look;exact PySem.W.method_fn X J (qo D).1 (qo D).2 U (l8.mp V) (by show(PySem.W.lookIn name od).map (·.isSome)=↑false;rw[Z,Y];rfl) h
def GU{ns:gs}{Q:Unit->Shared->Prop}(X:K.In s.heap)(I:g_ s.heap x dx C mA)(d:PySem.W.findIn K (.ref C) "__setattr__" = ↑↑(.builtin "object.__setattr__"))(e:PySem.W.plainOver K C=true)(f:PySem.W.takerIn K C name=↑none)(g:PySem.W.hasDictIn K C=true)(i:PySem.Within mA ns)(j:ns.length<=sizeLine)(h:∀h',g_ h' x dx C (λy=>if y=name then ↑v else mA y)->Heap.SameBut dx s.heap h'->Q () { s with heap:=h',toks:=s.toks+2 }) :
  wpAny (model prog w) A (setAttr (.ref x) name v) Q E s:=by
 obtain⟨od,J,o⟩:=I.look;refine PySem.W.set_plain X J d (PySem.W.osa_open (s:={ s with toks:=s.toks+1 }) (r:=none) X J e f λb=>?_);obtain⟨cd,k,V⟩:=PySem.W.any_some g;have l:s.heap.get? x=↑⟨.ref C,↑dx,.plain,#[]⟩:=I.obj;refine az (dg (az (az (wpAny_loadPart l (az (PySem.W.Looks.here (s:={ s with toks:=s.toks+1 }) (PySem.W.looks_clsIn X k) ?_))))));rw[V];refine dg (a:=↑dx) (az (dg (az ?_)));refine wpAny_nsSet1 (s:={ s with toks:=s.toks+1 }) I.ns λh' D U=>?_;obtain⟨p,m,n,Y,Z,c⟩:=D.count (PySem.Within.cons name v i);refine az (wpAny_lookBehind Y (by rw[Z];exact pastItsLine_dict (cy c (by rw[bf];omega))) ?_);exact dg (h _ ⟨(U.2 _ (Ne.symm I.ne)).trans I.obj,D,I.ne⟩ U)
variable{kw:List (Str×Value)}
def GV{R:Result->Shared->Prop}{vs:gu}(X:K.In s.heap)(I:PySem.W.makesIn K C=true)(hi:PySem.W.findIn K (.ref C) "__init__" = ↑↑(.ref f))(U:PySem.W.typeIn K (.ref f)=↑(.type "function"))(h:codeAny (model prog w) (A.under (.builtin "type.__call__" ⟨.ref C::vs,kw⟩)) (.call (.ref f) ⟨.ref (s.heap.objs.size+1)::vs,kw⟩) (PySem.W.InitBack (s.heap.objs.size+1) R)
   { s with heap:=(s.heap.push PySem.W.emptyDict).push (PySem.W.instObj C s.heap.objs.size) }) :
  codeAny (model prog w) A (.call (.ref C) ⟨vs,kw⟩) R s:=by
 obtain⟨V,g,d,t,os⟩:=s;exact PySem.W.make_core (PySem.W.makes_of X I) (PySem.W.looks_findIn X hi) (λD=>PySem.W.bind_fn X D U) (.inl rfl) h
def dO(f:Str)(v:V):List (Str×V)->List (Str×V)
 | []=>[(f,v)] | (g,x)::r=>if g=f then(g,v)::r else(g,x)::dO f v r
def Bv(f g:Str)(v:V):∀fs:List (Str×V),(dO f v fs).lookup g=if g=f then ↑v else fs.lookup g
 | []=>by
   show List.lookup g [(f,v)]=_;by_cases h:g=f
   ·have D:(g==f)=true:=l8.mpr h
    simp only[List.lookup,D,ax h]
   ·have D:(g==f)=false:=beq_eq_false_iff_ne.mpr h
    simp only[List.lookup,D,cb h]
 | (k,x)::r=>by
   have U:=Bv f g v r;rw[show dO f v ((k,x)::r)=(if k=f then(k,v)::r else(k,x)::dO f v r) from rfl];by_cases I:k=f
   ·rw[ax I]
    by_cases h:g=k
    ·have D:(g==k)=true:=l8.mpr h
     simp only[List.lookup,D,ax (h.trans I)]
    ·have D:(g==k)=false:=beq_eq_false_iff_ne.mpr h
     simp only[List.lookup,D,cb (λe:g=f=>h (e.trans I.symm))]
   ·rw[cb I]
    by_cases h:g=k
    ·have D:(g==k)=true:=l8.mpr h
     simp only[List.lookup,D,cb (λe:g=f=>I (h.symm.trans e))]
    ·have D:(g==k)=false:=beq_eq_false_iff_ne.mpr h
     simp only[List.lookup,D];exact U
def uZ(f:Str)(v:V):∀fs:List (Str×V),f∈(dO f v fs).map (·.1)/\∀g,g∈fs.map (·.1)->g∈(dO f v fs).map (·.1)
 | []=>⟨by simp[dO],λg h=>by simp at h⟩ | (k,x)::r=>by
   obtain⟨I,U⟩:=uZ f v r;rw[show dO f v ((k,x)::r)=(if k=f then(k,v)::r else(k,x)::dO f v r) from rfl];by_cases D:k=f
   ·rw[ax D]
    subst D;exact⟨by simp,λg h=>by simpa using h⟩
   ·rw[cb D]
    refine⟨?_,λg h=>?_⟩
    ·rw[bq]
     exact ay _ I
    ·rw[bq] at h ⊢
     rcases cf.mp h with e |e
     ·exact cf.mpr (.inl e)
     ·exact ay _ (U g e)
def Bw(f:Str)(v:V):∀fs:List (Str×V),(dO f v fs).length<=fs.length+1
 | []=>by simp[dO] | (k,x)::r=>by
   have I:=Bw f v r;rw[show dO f v ((k,x)::r)=(if k=f then(k,v)::r else(k,x)::dO f v r) from rfl];by_cases D:k=f
   ·rw[ax D,bf,bf];omega
   ·rw[cb D,bf,bf];omega
variable{o:gx}{v:V}
def eD.some_of(r:eD ↑v o):∃u,o=↑u/\RelV v u:=by
 cases o with
 |none=>exact(show False from r).elim |some u=>exact⟨u,rfl,r⟩
def eD.none_of(r:eD none o):o=none:=by
 cases o with
 |none=>rfl |some u=>exact(show False from r).elim
def GW(r:RelV v u):PySem.W.handedIn u=true:=by
 cases v with
 |non=>cases (show u=Value.none from r);rfl
 |bl b=>cases (show u=Value.bool b from r);rfl
 |int i=>obtain⟨t,e⟩:=(show ∃t,u=Value.int i t from r);cases e;rfl
 |str x=>obtain⟨t,e⟩:=(show ∃t,u=Value.str x t from r);cases e;rfl
 |byt b=>obtain⟨t,e⟩:=(show ∃t,u=Value.bytes b t from r);cases e;rfl
 |flt b=>obtain⟨t,e⟩:=(show ∃t,u=Value.float b t from r);cases e;rfl
 |ref a=>cases (show u=Value.ref a from r);rfl
 |ty n=>cases (show u=Value.type n from r);rfl
variable{a:Addr}{fs:List (Str×V)}
def qJ(D:eJ P w H h)(e:H a=↑(.ins C dx fs)):∃mA,g_ h a dx C mA/\(∀f,eD (fs.lookup f) (mA f))/\PySem.Within mA (fs.map (·.1))/\fs.length<=1000/\H dx=↑(.own a):=by
 obtain⟨d,z,I,U,mA,n,r,q⟩:=(show bR P w H h a (.ins C dx fs) from D a _ e);exact⟨mA,⟨U,n,I⟩,r,q,z,d⟩
structure hB (K:ic) (C:Addr):Prop where
 pg:PySem.W.plainGet K C Str.empty=true
 hd:PySem.W.hasDictIn K C=true
 po:PySem.W.plainOver K C=true
 sa:PySem.W.findIn K (.ref C) "__setattr__" = ↑↑(.builtin "object.__setattr__")
def hB.get(c:hB K C)(f:Str):PySem.W.plainGet K C f=true:=c.pg
def eL(K:ic)(C:Addr)(f:Str):Prop:=PySem.W.findIn K (.ref C) f=↑none
variable{f:Str}
def eL.taker(n:eL K C f):PySem.W.takerIn K C f=↑none:=by
 unfold PySem.W.takerIn;rw[show PySem.W.findIn K (.ref C) f=↑none from n];rfl
structure Oq (K:ic) (C:Addr) (f:Str) (v:V) (u:Value):Prop where
 at_:PySem.W.findIn K (.ref C) f=↑↑u
 rel:RelV v u
 get:PySem.W.specialIn K u "__get__" = ↑none
 cp:PySem.W.copiedNames.contains f=false
structure iM (K:ic) (C:Addr) (m:Str) (f:Addr):Prop where
 at_:PySem.W.findIn K (.ref C) m=↑↑(.ref f)
 fn:PySem.W.isFn K (.ref f)=true
 kp:PySem.W.keepIn K (.ref f)=true
variable{b:Bool}
def GX(I:Inv X pins σ H s)(e:H a=↑(.ins C dx fs))(c:hB X.K C)(n:eL X.K C f)(l:fs.lookup f=↑v)(h:∀u s',Inv X pins σ H s'->RelV v u->Q u s'):wpAny (model X.prog X.w) A (getAttr (.ref a) f b) Q E s:=by
 obtain⟨mA,O,r,_,_,_⟩:=qJ I.hok e;obtain⟨u,U,D⟩:=eD.some_of (v:=v) (o:=mA f) (by rw[<-l];exact r f);exact GS I.kIn O (c.get f) c.hd n U (GW D) (h u _ (I.tok _) D)
def Bx{m:Str}{g:Addr}{pl:Sem Bool}{Q:Value×gu->Shared->Prop}(I:Inv X pins σ H s)(e:H a=↑(.ins C dx fs))(c:hB X.K C)(k:iM X.K C m g)(l:fs.lookup m=none)(h:Q (.ref g,[.ref a]) s):wpAny (model X.prog X.w) A (getMethod (.ref a) m pl) Q E s:=by
 obtain⟨mA,O,r,_,_,_⟩:=qJ I.hok e;have D:mA m=none:=eD.none_of (by rw[<-l];exact r m);exact GT I.kIn O (c.get m) k.at_ k.fn D h
def GY{Q:Unit->Shared->Prop}(I:Inv X pins σ H s)(e:H a=↑(.ins C dx fs))(c:hB X.K C)(n:eL X.K C f)(i:fs.length<1000)(U:RelV y u)(h:∀s',Inv X pins σ (a_ H a (.ins C dx (dO f y fs))) s'->Q () s'):wpAny (model X.prog X.w) A (setAttr (.ref a) f u) Q E s:=by
 obtain⟨mA,O,r,wi,_,D⟩:=qJ I.hok e;have V:(fs.map (·.1)).length<=sizeLine:=by rw[ai,ie];omega
 refine GU I.kIn O c.sa c.po n.taker c.hd wi V λh' O' Y=>h _ ?_;have hd:∃o,h'.get? dx=↑o:=let ⟨o,_,_,e',_⟩:=O'.ns;⟨o,e'⟩;refine I.write (x:=a) (e:=dx) (by rw[e];exact True.intro) (.inr D) (λb q Z z=>(Y.2 b Z).trans z) hd ?_;refine⟨by rw[jh O.ne];exact D,?_,O.ne,O'.obj,_,O'.ns,λg=>?_,λg d=>?_⟩
 ·have:=Bw f y fs;omega
 ·show eD ((dO f y fs).lookup g) (if g=f then ↑u else mA g)
  rw[Bv];by_cases q:g=f
  ·rw[ax q,ax q];exact U
  ·rw[cb q,cb q];exact r g
 ·by_cases q:g=f
  ·rw[q];exact(uZ f y fs).1
  ·refine(uZ f y fs).2 g (wi g λz=>d ?_)
   show(if g=f then ↑u else mA g)=none;rw[cb q];exact z
def Inv.made(I:Inv X pins σ H s):Inv X pins σ (a_ (a_ H s.heap.objs.size (.own (s.heap.objs.size+1))) (s.heap.objs.size+1) (.ins C s.heap.objs.size []))
  { s with heap:=(s.heap.push PySem.W.emptyDict).push (PySem.W.instObj C s.heap.objs.size) }:=by
 have D:(s.heap.push PySem.W.emptyDict).get? s.heap.objs.size=↑PySem.W.emptyDict:=cj s.heap rfl;have V:((s.heap.push PySem.W.emptyDict).push (PySem.W.instObj C s.heap.objs.size)).get? (s.heap.objs.size+1)=↑(PySem.W.instObj C s.heap.objs.size):=by
  have:=cj (s.heap.push PySem.W.emptyDict) (o:=PySem.W.instObj C s.heap.objs.size) rfl;rwa [jk] at this
 have Y:(s.heap.push PySem.W.emptyDict).Ns s.heap.objs.size (λ_=>none):=⟨PySem.W.emptyDict,#[],_,D,rfl,(λe Z=>absurd Z ⋯),λ_=>rfl⟩;have c:=I.laid (a:=s.heap.objs.size) (o:=.own (s.heap.objs.size+1)) (h':=s.heap.push PySem.W.emptyDict) (t':=s.toks) (λb u q=>av _ q) (b6 _) ⟨_,D⟩;refine c.laid (a:=s.heap.objs.size+1) (o:=.ins C s.heap.objs.size []) (t':=s.toks) (λb u q=>av _ q) (Nat.le_of_eq (jk _ _)) ?_;have U:s.heap.objs.size≠s.heap.objs.size+1:=ce (f8 _);refine⟨by rw[jh U,og],f9 _,U,V,λ_=>none,(Heap.Ns1.of_empty Y).at λo q=>av _ q,λ_=>True.intro,λy d=>absurd rfl d⟩
def GZ{env:Env}(I:attributeBase e f env (eval e env)=eval e env)(h:wpAny (model prog w) A (eval e env) (λo D=>wpAny (model prog w) A (getAttr o f true) Q E D) E s):wpAny (model prog w) A (eval (.Attribute e f pos) env) Q E s :=
 Attribute_any_ h (by rw[arm_eval_Attribute,I])
def u_(K:ic)(ta:TE)(f:Str):TE:=λσ H Q=>ta σ H λx H1=>∃a C dx fs v,x=.ref a/\H1 a=↑(.ins C dx fs)/\hB K C/\eL K C f/\fs.lookup f=↑v/\Q v H1
def vc(K:ic)(ta tv:TE)(f:Str):TS:=λD σ H=>tv σ H λy H1=>ta σ H1 λx H2=>∃a C dx fs,x=.ref a/\H2 a=↑(.ins C dx fs)/\hB K C/\eL K C f/\fs.length<1000 /\
 D.nx σ (a_ H2 a (.ins C dx (dO f y fs)))
def By(D:PE X e ta)(U:attributeBase e f X.env (eval e X.env)=eval e X.env):PE X (.Attribute e f pos) (u_ X.K ta f):=by
 intro pins s σ H Q I h;refine GZ U (bI (D pins s σ H _ I h) λu g V=>?_);obtain⟨x,H1,Y,Z,a,C,dx,fs,v,ex,ea,c,n,l,q⟩:=V;subst ex;obtain rfl:u=Value.ref a:=Z;exact GX Y ea c n l λi s2 b d=>⟨v,H1,b,d,q⟩
variable{o value:Expr}{tv:TE}
def G_(V:PE X o ta)(Y:PE X value tv)(Z:swapsWith value ↑(.Attribute o f pos') pos.line X.env=pure false):PS X (.Assign [.Attribute o f pos'] value pos) (vc X.K ta tv f):=by
 intro pins s σ H D I h;refine plainObj_wpAny_Assign_Attribute (bI (Y pins s σ H _ I h) λu b U=>?_) Z;obtain⟨y,H1,d,e,q⟩:=U;refine bI (V pins b σ H1 _ d q) λg s2 U=>?_;obtain⟨x,H2,i,j,a,C,dx,fs,ex,ea,c,n,l,k⟩:=U;subst ex;obtain rfl:g=Value.ref a:=j;exact GY i ea c n l e λp m=>⟨σ,_,m,k⟩
inductive eY (K:ic) (H:Hp):V->Value->Prop where
 |non:eY K H .non (.type "NoneType")
 |bl (x:Bool):eY K H (.bl x) (.type "bool")
 |int (i:Int):eY K H ↥i (.type "int")
 |str (x:Str):eY K H (.str x) (.type "str")
 |flt (x:UInt64):eY K H (.flt x) (.type "float")
 |lst {a:Addr} {xs:ip} (e:H a=↑(.lst xs)):eY K H (.ref a) (.type "list")
 |frz {a:Addr} {o:Obj} {xs:ip} (e:H a=↑(.frz o (.lst xs))):eY K H (.ref a) (.type "list")
 |tup {a:Addr} {xs:ip} (e:H a=↑(.tup xs)):eY K H (.ref a) (.type "tuple")
 |dK {a:Addr} {kvs:List (dI×V)} (e:H a=↑(.dK kvs)):eY K H (.ref a) (.type "dict")
 |dT {a:Addr} {kvs:List (List dI×V)} (e:H a=↑(.dT kvs)):eY K H (.ref a) (.type "dict")
 |ins {a C dx:Addr} {fs:List (Str×V)} (e:H a=↑(.ins C dx fs)) (cl:hB K C) (ha:PySem.W.findIn K (.ref C) "__class__" = ↑↑(.builtin "object.__class__"))
    (hn:PySem.W.specialIn K (.builtin "object.__class__") "__get__" = ↑↑(.builtin "getset_descriptor.__get__")) (htk:PySem.W.takesIn K (.builtin "object.__class__")=↑true)
    (hm:PySem.W.mroIn K C (.type "object")=↑true):eY K H (.ref a) (.ref C)
variable{x:Str}{c:Value}
def Ha{x:V}{t:Value}(I:Inv X pins σ H s)(D:RelV x u)(ty:eY X.K H x t)(e:PySem.W.kitOne X.K t c=↑b)(h:∀tk,Q (.bool b) { s with toks:=tk }) :
  wpAny (model X.prog X.w) A (call (.builtin "isinstance") [u,c]) Q E s:=by
 cases ty with
 |non=>cases (show u=Value.none from D);exact fu PySem.W.kitx_none I.kIn True.intro e (λz=>nomatch z) h
 |bl y=>cases (show u=Value.bool y from D);exact fu PySem.W.kitx_bool I.kIn True.intro e (λz=>nomatch z) h
 |int i=>obtain⟨t,q⟩:=(show ∃t,u=Value.int i t from D);cases q;exact fu PySem.W.kitx_int I.kIn True.intro e (λz=>nomatch z) h
 |str y=>obtain⟨t,q⟩:=(show ∃t,u=Value.str y t from D);cases q;exact fu PySem.W.kitx_str I.kIn True.intro e (λz=>nomatch z) h
 |flt y=>obtain⟨t,q⟩:=(show ∃t,u=Value.float y t from D);cases q;exact fu PySem.W.kitx_float I.kIn True.intro e (λz=>nomatch z) h
 | @lst a xs ea =>
   cases (show u=Value.ref a from D);obtain⟨_,_,n,_,h1⟩:=(show bR X.prog X.w H s.heap a (.lst xs) from I.hok a _ ea);exact fu tz I.kIn ⟨_,h1,rfl⟩ e (λz=>nomatch z) h
 | @frz a ob xs ea =>
   cases (show u=Value.ref a from D);obtain⟨_,_,_,n,_,h1⟩:=(show bR X.prog X.w H s.heap a (.frz ob (.lst xs)) from I.hok a _ ea);exact fu tz I.kIn ⟨_,h1,rfl⟩ e (λz=>nomatch z) h
 | @tup a xs ea =>
   cases (show u=Value.ref a from D);obtain⟨_,_,_,p⟩:=(show bR X.prog X.w H s.heap a (.tup xs) from I.hok a _ ea);obtain⟨o,h1,h2,_⟩:=p;exact fu PySem.W.kitx_tuple I.kIn ⟨o,h1,h2⟩ e (λz=>nomatch z) h
 | @dK a kvs ea =>
   cases (show u=Value.ref a from D);obtain⟨_,_,vs,_,p⟩:=(show bR X.prog X.w H s.heap a (.dK kvs) from I.hok a _ ea);obtain⟨o,es,U,h1,h2,_⟩:=p;exact fu PySem.W.kitx_dict I.kIn ⟨o,h1,h2.1⟩ e (λz=>nomatch z) h
 | @dT a kvs ea =>
   cases (show u=Value.ref a from D);obtain⟨_,_,xs,_,o,es,U,h1,h2,_⟩:=(show bR X.prog X.w H s.heap a (.dT kvs) from I.hok a _ ea);exact fu PySem.W.kitx_dict I.kIn ⟨o,h1,h2.1⟩ e (λz=>nomatch z) h
 | @ins a C dx fs ea cl ha hn htk hm =>
   cases (show u=Value.ref a from D);obtain⟨mA,O,_⟩:=qJ I.hok ea;obtain⟨od,J,_⟩:=O.look;exact fu (PySem.W.kitx_own (cl.get _) cl.hd ha hn htk hm) I.kIn J e (λz=>nomatch z) h
structure bE (k:Nat) (A:Around):Prop where
 hd:A.handled=none
 dp:A.depth+3*k+5<recursionLimit
 un:A.units+16*k+200<cLine
def bE.mono{j:Nat}(r:bE k A)(h:j<=k):bE j A:=⟨r.hd,by have:=r.dp;omega,by have:=r.un;omega⟩
def bE.deeper(r:bE (k+1) A)(env:Env):bE k (A.deeper env) :=
 ⟨r.hd,by have:=r.dp;show A.depth+1+3*k+5<_;omega,by have:=r.un;show A.units+3+16*k+200<_;omega⟩
def Hb:(A.under (.builtin "type.__call__" ⟨.ref C::us,kw⟩)).depth=A.depth+1:=by
 first |rfl |simp[Around.under,Code.weight,Code.isCreation,Code.isGuard,Code.isCaller,Code.frames,Code.isFrame,guardIds]
def Hc:(A.under (.builtin "type.__call__" ⟨.ref C::us,kw⟩)).units=A.units+1:=by
 first |rfl |simp[Around.under,Code.cUnits,Code.frames,Code.isFrame]
def bE.make(r:bE (k+1) A)(C:Addr)(us:gu)(kw:List (Str×Value)):bE k (A.under (.builtin "type.__call__" ⟨.ref C::us,kw⟩)) :=
 ⟨r.hd,by have:=r.dp;rw[Hb];omega,by have:=r.un;rw[Hc];omega⟩
def bE.depth(r:bE k A):A.depth<recursionLimit:=by have:=r.dp;omega
def bE.units(r:bE k A):A.units+64<cLine:=by have:=r.un;omega
def jL:TA:=λ_ H Q=>Q [] H
def vl(ta:TE)(tr:TA):TA:=λσ H Q=>ta σ H λx H1=>tr σ H1 λxs H2=>Q (x::xs) H2
def qt:PA X [] jL:=λ_ _ _ _ H Q I h=>Calls.spliced_nil ⟨[],H,I,.nil,h⟩
def oy(D:PE X e te)(U:PA X es t)(V:‹starEach (e::es) X.env=(false,eval e X.env)::starEach es X.env›):PA X (e::es) (vl te t):=by
 intro pos pins s σ H Q I h;rw[V];show wpAny _ _ (spliced ((false,eval e X.env)::backTo pos (starEach es X.env))) _ _ s;refine Calls.spliced_cons (bI (D pins s σ H _ I h) λu Y Z=>?_);obtain⟨x,H1,a,b,c⟩:=Z;exact bI (U pos pins Y σ H1 _ a c) λus s2 ⟨xs,H2,I2,r2,q2⟩=>⟨x::xs,H2,I2,.cons b r2,q2⟩
def vr(t:TA):TE:=λσ H Q=>t σ H λxs H1=>xs.length<=sizeLine/\∀p,H1 p=none->Q (.ref p) (a_ H1 p (.tup xs))
def vu(t:TA):TE:=λσ H Q=>t σ H λxs H1=>xs.length<=sizeLine/\∀p,H1 p=none->Q (.ref p) (a_ H1 p (.lst xs))
def Bz{x1}(h:PA X es t):PE X (.Tuple es x1 pos) (vr t):=by
 intro pins s σ H Q I V;refine wpAny_Tuple_spliced (bI (h pos pins s σ H _ I V) λus D Y=>?_);obtain⟨xs,H1,U,r,z,q⟩:=Y;refine⟨by rw[<-r.length];exact z,?_⟩;have Z:H1 D.heap.objs.size=none:=U.hok.fresh (b6 _);refine⟨.ref D.heap.objs.size,a_ H1 D.heap.objs.size (.tup xs),U.laid (t':=D.toks) (λb u e=>av _ e) (b6 _) ?_,rfl,q _ Z⟩;exact⟨z,us,r,⟨_,cj _ rfl,rfl,_,rfl⟩⟩
def He(h:PA X es t):PE X (.List es pos) (vu t):=by
 intro pins s σ H Q I V;refine wpAny_List_spliced (bI (h pos pins s σ H _ I V) λus D Y=>?_);obtain⟨xs,H1,U,r,z,q⟩:=Y;refine⟨by rw[<-r.length];exact z,?_⟩;have Z:H1 D.heap.objs.size=none:=U.hok.fresh (b6 _);refine⟨.ref D.heap.objs.size,a_ H1 D.heap.objs.size (.lst xs),U.laid (t':=D.toks) (λb u e=>av _ e) (b6 _) ?_,rfl,q _ Z⟩;exact⟨z,us,0,r,cj _ rfl⟩
abbrev Sp:=ip->Hp->VK->XK->Prop
abbrev gW:=g9->Hp->Shared->XK->Value->Shared->Prop
structure gD (P:Program) (w:World) (K:ic) (mg:Str->gx) (base:Heap) (A:Around) (outer:g9) (s:Shared) (H:Hp):Prop where
 frames:A.frames=↑outer
 mod:Mod K mg base
 bs:∀b o,base.get? b=↑o->s.heap.get? b=↑o/\H b=none
 bsz:base.objs.size<=s.heap.objs.size
 funs:s.heap.FunFrames base outer
 frf:∀b∈eT outer,H b=none
 hok:eJ P w H s.heap
 bare:AllBare s.gens
def CE(outer:g9)(P:Program)(w:World)(H:Hp)(s:Shared)(Q:VK)(u:Value)(s':Shared):Prop :=
 ∃v H',s'.os=s.os/\AllBare s'.gens/\Un (eT outer) [] H H' s.heap s'.heap/\eJ P w H' s'.heap/\RelV v u/\Q v H'
def CR(CX:gW)(outer:g9)(P:Program)(w:World)(H:Hp)(s:Shared)(Q:VK)(E:XK)(r:Result)(s':Shared):Prop :=
 match r with
 | .ok (.ret u)=>CE outer P w H s Q u s' | .ok _=>False | .error e=>CX outer H s E e s'
structure cJ (P:Program) (w:World) (K:ic) (mg:Str->gx) (base:Heap) (CX:gW) (k:Nat) (f:Addr) (fd:FuncData) (ps:gs) (sp:Sp):Prop where
 len:∀vs H Q E,sp vs H Q E->vs.length=ps.length
 run:∀(A:Around) (outer:g9) (s:Shared) (H:Hp) (args:Args) (us:gu) (vs:ip) (Q:VK) (E:XK),bE k A->gD P w K mg base A outer s H->BindsTo s fd args (ps.zip us)->aO vs us->sp vs H Q E ->
  codeAny (model P w) A (.call (.ref f) args) (CR CX outer P w H s Q E) s
variable{f:Addr}{mg:Str->gx}{base:Heap}{CX:gW}{fd:FuncData}{ps:gs}{sp:Sp}
theorem cJ.imp{D:Sp}(F:cJ P w K mg base CX k f fd ps sp)(h:∀vs H Q E,D vs H Q E->sp vs H Q E):cJ P w K mg base CX k f fd ps D :=
 ⟨λvs H Q E q=>F.len vs H Q E (h _ _ _ _ q),λA outer s H args us vs Q E I U V Y Z=>F.run A outer s H args us vs Q E I U V Y (h _ _ _ _ Z)⟩
variable{outer:g9}
def gD.make(e:gD P w K mg base A outer s H)(C:Addr)(us:gu)(kw:List (Str×Value)) :
  gD P w K mg base (A.under (.builtin "type.__call__" ⟨.ref C::us,kw⟩)) outer s H:=⟨by first |exact e.frames | (simpa[Around.under,Code.envs,Code.isFrame,pushEnvs] using e.frames),e.mod,e.bs,e.bsz,e.funs,e.frf,e.hok,e.bare⟩
protected def Inv.env0(I:Inv X pins σ H s):gD X.prog X.w X.K X.mg X.base X.A X.stack s H :=
 ⟨I.ok.frames,I.ok.mod,I.bs,cy I.ok.bsz I.sz,I.stack,I.stkFree,I.hok,I.bare⟩
variable{Q:VK}
def Inv.after(I:Inv X pins σ H s)(h:CE X.stack X.prog X.w H s Q u s'):EP X pins σ Q u s':=by
 obtain⟨v,H',os,D,un,U,r,q⟩:=h;obtain⟨Y,g,d,t,V⟩:=s';obtain rfl:V=s.os:=os;exact⟨v,H',I.call (h':=Y) (g':=g) (d':=d) (t':=t) (ch:=[]) un U D (λb z=>absurd z ⋯),r,q⟩
def qK(sp:Sp)(dvs:ip)(E:XK)(t:TA):TE:=λσ H Q=>t σ H λvs H1=>sp (vs++dvs) H1 Q E
def Binds(K:ic)(fd:FuncData)(ps:gs)(ds:gu):Prop :=
 ∀(s:Shared) (us:gu),K.In s.heap->(us++ds).length=ps.length->BindsTo s fd ⟨us,[]⟩ (ps.zip (us++ds))
def Binds.all(h:∀us:gu,us.length=ps.length->bindArgs fd ⟨us,[]⟩=pure (ps.zip us)):Binds K fd ps []:=λs us _ D=>by
 rw[c8] at D ⊢;exact .of_eq (h us D)
def vx(CX:gW)(X:Cx)(E:XK):Prop:=∀(pins:ii) (σ:St) (H:Hp) (s:Shared) (e:Value) (s':Shared),Inv X pins σ H s->CX X.stack H s E e s'->X.xe e s'
variable{E:XK}{dvs:ip}{ds:gu}
theorem Hf(F:cJ X.prog X.w X.K X.mg X.base CX k f fd ps sp)(V:bE k X.A)(Y:Binds X.K fd ps ds)(hd:aO dvs ds)(Z:vx CX X E)(I:Inv X pins σ H s)(r:aO vs us)(h:sp (vs++dvs) H Q E):wpAny (model X.prog X.w) X.A (call (.ref f) us) (EP X pins σ Q) X.xe s:=by
 have U:aO (vs++dvs) (us++ds):=r.append hd;have a:(us++ds).length=ps.length:=by rw[<-U.length];exact F.len _ _ _ _ h
 refine nk (jp (F.run X.A X.stack s H ⟨us,[]⟩ (us++ds) (vs++dvs) Q E V I.env0 (Y s us I.kIn a) U h) λr s' D=>?_);cases r with
 |error e=>exact Z pins σ H s e s' I D |ok fl =>
   cases fl with
   |ret u=>exact I.after D |next=>exact False.elim D |brk=>exact False.elim D |cont=>exact False.elim D
def qL(F:cJ X.prog X.w X.K X.mg X.base CX k f fd ps sp)(Y:bE k X.A)(Z:Gl X x)(a:X.mg x=↑(.ref f))(b:PySem.W.keepIn X.K (.ref f)=true)(c:Binds X.K fd ps ds)(hd:aO dvs ds)(d:vx CX X E)(g:PA X (e::es) t)(D:(x==("__debug__" : Str))=false:=by decide)(i:‹starEach (e::es) X.env=(false,eval e X.env)::starEach es X.env›)(U:‹(backTo pos (starEach es X.env)).any (·.1)=false›) :
  PE X (.Call (.Name x p) (e::es) [] pos) (qK sp dvs E t):=by
 intro pins s σ H Q I h;refine i4 (zk I Z a ?_ D);refine j5 (h₀:=X.base) I.ok.mod.kin b (bI (g pos pins s σ H _ I h) λus l j=>?_) i U;obtain⟨vs,H1,V,r,q⟩:=j;refine⟨V.kIn,?_⟩;exact Hf F Y c hd d V r q
structure Mk (K:ic) (C f:Addr):Prop where
 makes:PySem.W.makesIn K C=true
 init:PySem.W.findIn K (.ref C) "__init__" = ↑↑(.ref f)
 fn:PySem.W.isFn K (.ref f)=true
 kp:PySem.W.keepIn K (.ref C)=true
def PK(X:Cx)(kws:List Keyword)(t:TA):Prop :=
 ∀(pos:Pos) (pins:ii) (s:Shared) (σ:St) (H:Hp) (Q:ip->Hp->Prop),Inv X pins σ H s->t σ H Q->wpAny (model X.prog X.w) X.A (evalAll ((backToKw pos (keywordEach kws X.env)).map (·.2))) (AP X pins σ Q) X.xe s
section
variable {X:Cx} {CX:gW} {k:Nat} {f C:Addr} {fd:FuncData} {ps ks:gs} {sp:Sp} {E:XK} {x m:Str} {p pos apos kpos:Pos} {e o:Expr} {es:h6} {kws:List Keyword} {te ta:TE} {t tk:TA} {nm:h7}
def Hg:PK X [] jL:=λ_ _ _ _ H Q I h=>wpAny_evalAll_nil ⟨[],H,I,.nil,h⟩
def Hh(D:PE X e te)(U:PK X kws t):PK X (⟨nm,e,kpos⟩::kws) (vl te t):=by
 intro pos pins s σ H Q I h;show wpAny _ _ (evalAll ((do let v <-eval e X.env;standAt pos;pure v)::(backToKw pos (keywordEach kws X.env)).map (·.2))) _ _ s;refine wpAny_evalAll_cons (az (bI (D pins s σ H _ I h) λu V Y=>?_));obtain⟨x,H1,Z,a,b⟩:=Y;refine az (vy (dg ?_));exact bI (U pos pins V σ H1 _ Z b) λus s2 ⟨xs,H2,I2,r2,q2⟩=>⟨x::xs,H2,I2,.cons a r2,q2⟩
structure Os (K:ic) (fd:FuncData) (ps ks:gs) (g:gu->gu->gu) (gV:ip->ip->ip):Prop where
 to:∀(s:Shared) (us ws:gu),K.In s.heap->(g us ws).length=ps.length->BindsTo s fd ⟨us,ks.zip ws⟩ (ps.zip (g us ws))
 rel:∀ {vs:ip} {us:gu} {zs:ip} {ws:gu},aO vs us->aO zs ws->aO (gV vs zs) (g us ws)
variable {g:gu->gu->gu} {gV:ip->ip->ip}
end
structure vo (N P:gs) (sc:Scope):Prop where
 kind:sc.kind=.function
 co:sc.isCoroutine=false
 gen:sc.isGenerator=false
 nd:N.Nodup
 pre:N.take P.length=P
 par:∀x∈P,sc.names.lookup x=some .local\/sc.names.lookup x=some .cell
 nofree:∀y∈sc.names,y.2≠.free
def B0{kindOf:Str->Option NameKind}{x:Str}:∀ {D:List (Str×Value)} {m:Str->gx},(∀v,(x,v)∉D)->bindL kindOf D m x=m x
 | [],_,_=>rfl | (n,v)::r,m,h=>by
   unfold bindL;rw[B0 λw I=>h w (ay _ I)];split
   ·have:x≠n:=by rintro rfl;exact h v bi
    simp[this]
   ·rfl
def B1{kindOf:Str->Option NameKind}{x:Str}:∀ {D:List (Str×Value)} {m:Str->gx},(∀v,(x,v)∉D)->bindC kindOf D m x=m x
 | [],_,_=>rfl | (n,v)::r,m,h=>by
   unfold bindC;rw[B1 λw I=>h w (ay _ I)];split
   ·rfl
   ·have:x≠n:=by rintro rfl;exact h v bi
    simp[this]
def B2{kindOf:Str->Option NameKind}{x:Str}{v:Value}:∀ {P:gs} {vs:gu} {i:Nat} {m:Str->gx},P.Nodup->P[i]?=↑x->vs[i]?=↑v->kindOf x=some .local ->
  bindL kindOf (P.zip vs) m x=↑v
 | [],_,_,_,_,h,_,_=>by simp at h |_::_,[],_,_,_,_,h,_=>by simp at h |p::P,w::vs,0,m,nd,h1,h2,hk=>by
   simp at h1 h2;subst h1;subst h2;show bindL kindOf ((p,w)::P.zip vs) m p=_;unfold bindL;rw[B0 λv D=>(c7.mp nd).1 (lm D).1,ax hk];simp
 |p::P,w::vs,i+1,m,nd,h1,h2,hk=>by
   show bindL kindOf ((p,w)::P.zip vs) m x=_;unfold bindL;exact B2 (i:=i) (c7.mp nd).2 (by simpa using h1) (by simpa using h2) hk
def B3{kindOf:Str->Option NameKind}{x:Str}{v:Value}:∀ {P:gs} {vs:gu} {i:Nat} {m:Str->gx},P.Nodup->P[i]?=↑x->vs[i]?=↑v->kindOf x≠some .local ->
  bindC kindOf (P.zip vs) m x=↑v
 | [],_,_,_,_,h,_,_=>by simp at h |_::_,[],_,_,_,_,h,_=>by simp at h |p::P,w::vs,0,m,nd,h1,h2,hk=>by
   simp at h1 h2;subst h1;subst h2;show bindC kindOf ((p,w)::P.zip vs) m p=_;unfold bindC;rw[B1 λv D=>(c7.mp nd).1 (lm D).1,cb hk];simp
 |p::P,w::vs,i+1,m,nd,h1,h2,hk=>by
   show bindC kindOf ((p,w)::P.zip vs) m x=_;unfold bindC;exact B3 (i:=i) (c7.mp nd).2 (by simpa using h1) (by simpa using h2) hk
def start(N:gs)(vs:ip):St:=vs.map some++List.replicate (N.length-vs.length) none
def cI(CX:gW)(P:Program)(w:World)(K:ic)(mg:Str->gx)(base:Heap)(N:gs)(qual:Str)(scope:Scope)(f:Addr)(cd:Value)(A:Around)(outer:g9)(s:Shared)(H:Hp)(E:XK):Cx where
 prog:=P
 w:=w
 K:=K
 mg:=mg
 base:=base
 A:=A.deeper (envOfC qual scope s.heap.objs.size f cd)
 N:=N
 s₀:=s
 H₀:=H
 env:=envOfC qual scope s.heap.objs.size f cd
 outer:=outer
 stack:=envOfC qual scope s.heap.objs.size f cd::outer
 ex:=[]
 calm:=true
 fn:=λ_=>true
 pn:=[]
 xe:=λe s'=>wpAny (model P w) (A.deeper (envOfC qual scope s.heap.objs.size f cd)) (leaving (envOfC qual scope s.heap.objs.size f cd) e) (λ_ D=>CX outer H s E e D) (λe' D=>CX outer H s E e' D) s'
def B4{sc:Scope}(h:sc.names.lookup x=some .cell):∃c,(cellsFrom n sc.names []).lookup x=↑c:=by
 have q:=oj sc.names n [] (.inl h);exact nh.mp q
variable{qual:Str}{scope:Scope}
def B5{cd:Value}{Y:Shared}(S:vo N ps scope)(hd:A.handled=none)(D:gD P w K mg base A outer s H)(m:vs.length=ps.length)(r:aO vs us)(x:InCallC s s.heap.objs.size (bindL (envOfC qual scope s.heap.objs.size f cd).kindOf (ps.zip us) λ_=>none) (cellsFrom (s.heap.objs.size+1) scope.names []) (bindC (envOfC qual scope s.heap.objs.size f cd).kindOf (ps.zip us) λ_=>none) Y) :
  Inv (cI CX P w K mg base N qual scope f cd A outer s H E) [] (start N vs) H Y:=by
 have g:ps.length<=N.length:=by have:=congrArg List.length S.pre;rw[fo] at this;omega
 obtain⟨h1,tk,rfl,Z⟩:=x.done;have I:∀b:Addr,b∉(cI CX P w K mg base N qual scope f cd A outer s H E).ex:=λb z=>absurd (show b∈([]:gy) from z) ⋯;refine⟨⟨D.mod,S.kind,rfl,rfl,b6 _,λy z c h1 h2=>?_,λy hy=>?_,λy c _ h=>?_,λ_=>hd,Around.frames_deeper D.frames,.inr ⟨rfl,rfl⟩,λb z=>absurd z (I b),D.bs,D.bsz,λb _ _=>I b,λb z=>absurd z (I b),D.funs,D.frf⟩,
  rfl,D.bare,Un.kept Z,⟨_,x.toInCall.ns,λi y v h1 h2 o=>?_⟩,λy c h=>⟨_,x.cell y c h⟩,D.hok.fresh (b6 _),λy c h=>?_,λp U=>absurd (show p∈([]:ii) from U) ⋯,D.hok.kept Z,?_⟩
 ·exact name_of_addr x.apart (fz h1) (fz h2)
 ·have hy:scope.names.lookup y=some .cell\/scope.names.lookup y=some .free:=hy
  rcases hy with hy |hy
  ·exact B4 hy
  ·exact absurd rfl (S.nofree _ (fz hy))
 ·exact ly (x.above y c (fz h))
 ·have hi:i<vs.length:=by
   unfold start at h2;by_cases hi:i<vs.length
   ·exact hi
   ·rw[cw (by simpa using hi)] at h2
    rw[List.getElem?_replicate] at h2;split at h2 <;> cases h2
  have j:vs[i]?=↑v:=by
   unfold start at h2;rw[bg (by simpa using hi),bj] at h2;cases e:vs[i]? with
   |none=>rw[e] at h2;cases h2
   |some a=>rw[e] at h2;cases h2;rfl
  obtain⟨u,d,l⟩:=r.get j;have U:ps[i]?=↑y:=by
   rw[<-S.pre,List.getElem?_take_of_lt (by omega)];exact h1
  have V:ps.Nodup:=by rw[<-S.pre];exact S.nd.sublist (List.take_sublist _ _)
  refine⟨u,l,?_⟩;rcases S.par y (bn U) with k |k
  ·exact .inl ⟨k,B2 V U d k⟩
  ·obtain⟨c,e⟩:=B4 (n:=s.heap.objs.size+1) k
   refine .inr ⟨.inl k,c,e,?_⟩;have q:=x.cell y c e;rw[B3 V U d (by show scope.names.lookup y≠_;rw[k];decide)] at q;exact q
 ·exact D.hok.fresh (ly (x.above y c (fz h)))
 ·unfold start
  show _=N.length;rw[ak,ai,gn];omega
def Hi{D:Arguments}{p kV c z cdv ct oc:Value}{an od:Option Addr}{osl:Array gx}(F:K.lookup f=↑⟨oc,od,.func (PySem.W.fnOf name qual D body scope p kV c z an cdv ct),osl⟩)(i:PySem.W.codeIn K cdv qual=true)(S:vo N ps scope)(len:∀vs H Q E,sp vs H Q E->vs.length=ps.length)(Y:∀(A:Around) (outer:g9) (s:Shared) (H:Hp) (vs:ip) (Q:VK) (E:XK),bE k (A.deeper (envOfC qual scope s.heap.objs.size f cdv))->sp vs H Q E ->
   ∃t,gJ (cI CX P w K mg base N qual scope f cdv A outer s H E) body t/\t { nx:=λ_ H'=>Q .non H',rt:=Q } (start N vs) H) :
  cJ P w K mg base CX (k+1) f (PySem.W.fnOf name qual D body scope p kV c z an cdv ct) ps sp:=by
 refine⟨len,λA outer s H args us vs Q E j d G r g=>?_⟩;have L:=len _ _ _ _ g;have B:K.In s.heap:=d.mod.kin.keeps λb o e=>(d.bs b o e).1;have l:s.heap.NoLimit:=d.mod.nolimit.keeps λb o e=>(d.bs b o e).1;have Z:∀y∈ps.zip us,scope.names.lookup y.1=some .local\/(scope.names.lookup y.1=some .cell/\((cellsFrom (s.heap.objs.size+1) scope.names []).lookup y.1).isSome=true):=λ⟨n,v⟩ hy=>by
  rcases S.par n (lm hy).1 with q |q
  ·exact .inl q
  ·exact .inr ⟨q,oj _ _ _ (.inl q)⟩
 refine codeAny_call_function j.depth (B _ _ F) rfl S.co S.gen rfl (PySem.W.codeRec_of B i) (G _ _ _ _ ?_);refine wpAny_newFunctionEnv_cells S.kind Z λenv M C x=>?_;subst M;refine⟨l.keeps x.toInCall.keep,codeAny_func ?_⟩;obtain⟨t,O,R⟩:=Y A outer s H vs Q E (j.deeper _) g;have I:Inv (cI CX P w K mg base N qual scope f cdv A outer s H E) [] (start N vs) H C:=B5 S j.hd d L r x;refine iz (O [] C (start N vs) H _ I R) (λfl s' a=>?_) λe s' a=>a;have h:∀ {U:St} {H':Hp} {v:V} {u:Value},Inv (cI CX P w K mg base N qual scope f cdv A outer s H E) [] U H' s'->RelV v u->Q v H'->CE outer P w H s Q u s' :=
  λ{U H' v u} J m q=>⟨v,H',J.os,J.bare,J.base,J.hok,m,q⟩
 cases fl with
 |ret u =>
   obtain⟨v,U,H',J,m,q⟩:=a;exact h J m q
 |next =>
   obtain⟨U,H',J,q⟩:=a;exact h (v:=V.non) (u:=Value.none) J rfl q
 |brk =>
   obtain⟨_,_,_,q⟩:=a;exact False.elim q
 |cont =>
   obtain⟨_,_,_,q⟩:=a;exact False.elim q
def qM(r:ip->Hp->VK->Prop)(t:TA):TE:=λσ H Q=>t σ H λvs H1=>r vs H1 Q
variable{r:ip->Hp->VK->Prop}{id:String}
def lL(V:rq X (.builtin id) r)(Y:Gl X x)(Z:X.mg x=none)(a:bootBuiltins x=↑(.builtin id))(b:PA X (e::es) t)(c:x ≠ "__name__":=by decide)(D:(x==("__debug__" : Str))=false:=by decide)(d:‹starEach (e::es) X.env=(false,eval e X.env)::starEach es X.env›)(U:‹(backTo pos (starEach es X.env)).any (·.1)=false›):PE X (.Call (.Name x p) (e::es) [] pos) (qM r t):=by
 intro pins s σ H Q I h;refine i4 (wg I Y Z a ?_ c D);exact PyProof.Rows.callWith_builtin1 (bI (b pos pins s σ H _ I h) λus s1 ⟨vs,H1,I1,r1,q1⟩=>V pins s1 σ H1 vs us Q I1 r1 q1) d U
variable{T:String}
def v7(V:rq X (.type T) r)(Y:Gl X x)(Z:X.mg x=none)(a:bootBuiltins x=↑(.type T))(b:PA X (e::es) t)(c:x ≠ "__name__":=by decide)(D:(x==("__debug__" : Str))=false:=by decide)(d:‹starEach (e::es) X.env=(false,eval e X.env)::starEach es X.env›)(U:‹(backTo pos (starEach es X.env)).any (·.1)=false›):PE X (.Call (.Name x p) (e::es) [] pos) (qM r t):=by
 intro pins s σ H Q I h;refine i4 (wg I Y Z a ?_ c D);exact f6 (bI (b pos pins s σ H _ I h) λus s1 ⟨vs,H1,I1,r1,q1⟩=>V pins s1 σ H1 vs us Q I1 r1 q1) d U
end L2
namespace HT
open PySem PyProof.Rows
section
open PySem.SeqAt
open PySem.AutoSeq1 (wpAny_loadPart')
open PySem.MeetsSeq PySem.MeetsSeq2 PySem.MeetsSeq3
end
def sIx(n d:Nat):h8->Nat
 |none=>d |some v=>if v<0 then(v+(n:Int)).toNat else min v.toNat n
def sIx_none(n d:Nat):sIx n d none=d:=rfl
def sIx_nat(n d k:Nat):sIx n d ↑(k:Int)=min k n:=by
 show(if (k:Int)<0 then((k:Int)+(n:Int)).toNat else min (k:Int).toNat n)=min k n;rw[cb (by omega),ft]
end HT
namespace L2
open PySem PySem.Spec PyProof.Rows
abbrev TO:=St->Hp->(h8->Hp->Prop)->Prop
def PO(X:Cx)(e:Option Expr)(t:TO):Prop :=
 ∀(pins:ii) (s:Shared) (σ:St) (H:Hp) (Q:h8->Hp->Prop),Inv X pins σ H s->t σ H Q ->
  wpAny (model X.prog X.w) X.A (evalPart e X.env) (λu s'=>∃o H',Inv X pins σ H' s'/\IsPart u o/\Q o H') X.xe s
def Hj:TO:=λ_ H Q=>Q none H
def Hk(t:TE):TO:=λσ H Q=>t σ H λx H1=>∃i,x=.int i/\Q ↑i H1
def B6{ns:g8}:∀ {us:gu},aO (ns.map V.int) us->IntsAre us ns:=by
 induction ns with
 |nil=>intro us r;rw[di] at r;cases r;exact .nil
 |cons n ns ih =>
   intro us r;rw[bq] at r;cases r with
   |cons r1 r2 =>
     obtain⟨t,e⟩:=r1;subst e;exact .cons n t (ih r2)
variable{X:Cx}
def Hl:PO X none Hj:=by
 intro pins s σ H Q I h;rw[evalPart_none];exact dg ⟨none,H,I,.none,h⟩
variable{e:Expr}{te:TE}
def Hm(h:PE X e te):PO X ↑e (Hk te):=by
 intro pins s σ H Q I D;rw[evalPart_some];refine bI (h pins s σ H _ I D) λu a U=>?_;obtain⟨x,H1,V,Y,Z⟩:=U;obtain⟨i,rfl,q⟩:=Z;obtain⟨t,rfl⟩:=Y;exact⟨↑i,H1,V,.int i t,q⟩
variable{lo hi:Option Expr}
def B7(X:Cx)(r:V->h8->h8->Hp->VK->Prop):Prop :=
 ∀(pins:ii) (s:Shared) (σ:St) (H:Hp) (x:V) (v D I:Value) (lo hi:h8) (sl:Addr) (Q:VK),Inv X pins σ H s->RelV x v->s.heap.IsSliceOf sl D I .none->IsPart D lo->IsPart I hi->r x lo hi H Q ->
  ∃T id,typeLookup (.type T) "__getitem__" = pure ↑(.builtin id)/\s.TypeIs v T/\wpAny (model X.prog X.w) X.A (getItem v (.ref sl)) (EP X pins σ Q) X.xe s
def Hn(r:V->h8->h8->Hp->VK->Prop)(te:TE)(tl th:TO):TE:=λσ H Q=>te σ H λx H1=>tl σ H1 λl H2=>th σ H2 λu D=>r x l u D Q
variable{r:R2}{tl th:TO}{pos p2:Pos}
def Ho{r:V->h8->h8->Hp->VK->Prop}(c:B7 X r)(d:PE X e te)(f:PO X lo tl)(g:PO X hi th):PE X (.Subscript e (.Slice lo hi none p2) pos) (Hn r te tl th):=by
 intro pins s σ H Q I h;refine Subscript_ (bI (d pins s σ H _ I h) λv i U=>?_);obtain⟨x,H1,j,k,m⟩:=U;refine wpAny_Slice (bI (f pins i σ H1 _ j m) λY s2 U=>?_);obtain⟨l,H2,n,pl,o⟩:=U;refine bI (g pins s2 σ H2 _ n o) λZ D U=>?_;obtain⟨u,a,p,t,y⟩:=U;rw[evalPart_none];refine dg ?_;have z:Inv X pins σ a { D with heap:=D.heap.push { cls:=.type "slice",data:=.fields #[Y,Z,.none] } }:=p.kept (t':=D.toks) λb E q=>av _ q;obtain⟨T,id,hT,B,C⟩:=c pins { D with heap:=D.heap.push { cls:=.type "slice",data:=.fields #[Y,Z,.none] } } σ a x v Y Z l u D.heap.objs.size Q z k (Heap.IsSliceOf.new ..) pl t y;show wpAny (model X.prog X.w) X.A (subscriptTail e (.Slice lo hi none p2) v (.ref D.heap.objs.size)) (EP X pins σ Q) X.xe { D with heap:=D.heap.push { cls:=.type "slice",data:=.fields #[Y,Z,.none] } };exact tail_any (ops:=[.ref D.heap.objs.size,v]) B hT C (by with_unfolding_all rfl)
def hV(xs:ip)(lo hi:h8):ip:=(xs.drop (HT.sIx xs.length 0 lo)).take (HT.sIx xs.length xs.length hi-HT.sIx xs.length 0 lo)
def Hq(xs:ip)(lo hi:h8):(hV xs lo hi).length<=xs.length:=by
 unfold hV;rw[fo,e8];omega
def dJ(n:Nat)(i:Int):Option Nat:=if 0<=i then(if i<n then ↑i.toNat else none) else if -(n:Int)<=i then ↑(i+n).toNat else none
variable{α:Type}
def bJ(xs:List α)(i:Int):Option α:=(dJ xs.length i).bind λj=>xs[j]?
variable{n:Nat}{i:Int}
def v8{j:Nat}(h:dJ n i=↑j):seqIndex? i n=↑j/\j<n/\-(n:Int)<=i/\i<n:=by
 unfold dJ at h;by_cases D:0<=i
 ·rw[ax D] at h
  by_cases h1:i<n
  ·rw[ax h1] at h
   have e:i.toNat=j:=b9 h;exact⟨by rw[seqIndex_of D h1,e],by omega,by omega,h1⟩
  ·rw[cb h1] at h;cases h
 ·rw[cb D] at h
  by_cases h1:-(n:Int)<=i
  ·rw[ax h1] at h
   have e:(i+n).toNat=j:=b9 h;exact⟨by rw[seqIndex_neg (by omega) h1,e],by omega,h1,by omega⟩
  ·rw[cb h1] at h;cases h
def v9{xs:List α}{v:α}(h:bJ xs i=↑v):∃j,seqIndex? i xs.length=↑j/\xs[j]?=↑v/\j<xs.length/\-(xs.length:Int)<=i/\i<xs.length:=by
 unfold bJ at h;cases e:dJ xs.length i with
 |none=>rw[e] at h;cases h
 |some j =>
   rw[e] at h;obtain⟨h1,h2,D,I⟩:=v8 e;exact⟨j,h1,h,h2,D,I⟩
def Hr(xs:List α)(v:α):bJ (xs++[v]) (-1)=↑v:=by
 have D:(xs++[v]).length=xs.length+1:=by simp
 have e:dJ (xs++[v]).length (-1)=↑xs.length:=by
  unfold dJ;rw[D,cb (by decide),ax (by omega)];congr 1;omega
 unfold bJ;rw[e];show(xs++[v])[xs.length]?=↑v;simp
def lM(b:Expr):Prop:=∀o i,subscripted b false o i=operate [o,i] (getItem o i)
def jB(X:Cx)(r:R2):Prop :=
 ∀(value D:Expr) (pins:ii) (s:Shared) (σ:St) (H:Hp) (x y:V) (v u:Value) (Q:VK),Inv X pins σ H s->RelV x v->RelV y u->r x y H Q ->
  subscripted D false v u=operate [v,u] (getItem v u)->wpAny (model X.prog X.w) X.A (subscriptTail value D v u) (EP X pins σ Q) X.xe s
def B8(X:Cx)(id:String)(r:V->ip->Hp->VK->Prop):Prop :=
 ∀(pins:ii) (s:Shared) (σ:St) (H:Hp) (x:V) (xs:ip) (v:Value) (us:gu) (Q:VK),Inv X pins σ H s->RelV x v->aO xs us->r x xs H Q ->
  wpAny (model X.prog X.w) X.A (call (.builtin id) (v::us)) (EP X pins σ Q) X.xe s
def jB.or{U:R2}(h:jB X r)(h':jB X U):jB X (λx y H Q=>r x y H Q\/U x y H Q):=by
 intro value D pins s σ H x y v u Q I V Y q Z;rcases q with q |q
 ·exact h value D pins s σ H x y v u Q I V Y q Z
 ·exact h' value D pins s σ H x y v u Q I V Y q Z
variable{a b:Expr}{ta tb:TE}
def qN(D:jB X r)(U:PE X a ta)(V:PE X b tb)(Y:lM b):PE X (.Subscript a b pos) (nF r ta tb):=by
 intro pins s σ H Q I h;exact Subscript_ (kM U V I h λv u s2 x y H2 Z c d q=>D a b pins s2 σ H2 x y v u Q Z c d q (Y _ _))
def nJ(K:ic):R2:=λx y H Q=>∃p xs i v,x=.ref p/\y=.int i/\cY K H p xs/\bJ xs i=↑v/\Q v H
def nK(K:ic):R2:=λx y H Q=>∃p xs i v,x=.ref p/\y=.int i/\dV K H p xs/\bJ xs i=↑v/\Q v H
def nL:R2:=λx y H Q=>∃z i c,x=.str z/\y=.int i/\z.length<=sizeLine/\bJ z.cps.toList i=↑c/\Q (.str ⟨#[c]⟩) H
def B9:jB X (nJ X.K):=by
 intro value U pins s σ H x y v u Q I c d h Z;obtain⟨p,xs,i,z,rfl,rfl,e,f,q⟩:=h;cases c;obtain⟨t,rfl⟩:=d;obtain⟨its,r,pl,m⟩:=I.list e;obtain⟨j,h1,h2,n,g,k⟩:=v9 f;obtain⟨w,a,V⟩:=r.get h2;have l:=r.length;have o:=lJ;have D:EP X pins σ Q w s:=⟨z,H,I,V,q⟩;by_cases b:0<=i
 ·have Y:i.toNat=j:=by
   rw[seqIndex_of b k] at h1;exact b9 h1
  exact item_listR pl.isList b (by omega) (by rw[Y];simpa using a) D Z
 ·have Y:(i+(its.toArray.size:Int)).toNat=j:=by
   rw[seqIndex_neg (by omega) g] at h1;rw[b8,<-l];exact b9 h1
  exact subscriptTail_builtinR (x:=w) pl.isList.typeIs slot_list_getitem.lookup
   (wpAny_getItem_list_neg (Q:=λr s'=>r=w/\EP X pins σ Q r s') pl.isList (by omega) (by rw[b8] <;> omega) (by omega) (by rw[Y];simpa using a) ⟨rfl,D⟩) Z
def Ht:jB X (nK X.K):=by
 intro value D pins s σ H x y v u Q I Y Z h a;obtain⟨p,xs,i,z,rfl,rfl,b,c,q⟩:=h;cases Y;obtain⟨t,rfl⟩:=Z;obtain⟨its,r,pl,f⟩:=I.tuple b;obtain⟨j,h1,h2,g,k,l⟩:=v9 c;obtain⟨w,d,U⟩:=r.get h2;have e:=r.length;have m:=lJ;have V:EP X pins σ Q w s:=⟨z,H,I,U,q⟩;exact subscriptTail_builtinR (x:=w) pl.typeIs slot_tuple_getitem.lookup
  (getItem_tuple (j:=j) (Q:=λr s'=>r=w/\EP X pins σ Q r s') pl (by omega) (by omega) (by rw[b8,<-e];exact h1) (by simpa using d) ⟨rfl,V⟩) a
def Hu:jB X nL:=by
 intro value D pins s σ H x y v u Q I U V h Y;obtain⟨z,i,c,rfl,rfl,g,Z,q⟩:=h;obtain⟨t,rfl⟩:=U;obtain⟨t',rfl⟩:=V;obtain⟨j,h1,h2,k,a,b⟩:=v9 Z;have d:z.cps.toList.length=z.length:=by simp[Str.length]
 rw[d] at h1 a b;have l:=lJ;exact tail_any (typeIs_str s z t) slot_str_getitem.lookup (getItem_str (c:=c) (by
  have e:decide (i < -(2 ^ 63:Int))=false:=dw (by omega);have f:decide (i >= 2 ^ 63)=false:=dw (by omega);rw[e,f,Bool.or_false]) (by rw[h1];simpa using h2) ⟨.str ⟨#[c]⟩,H,I.tok _,⟨_,rfl⟩,q⟩) Y
def BA(K:ic):R2:=λx y H Q=>nJ K x y H Q\/nK K x y H Q\/nL x y H Q
def vA:jB X (BA X.K):=B9.or (Ht.or Hu)
def Hv(its:gu)(n j:Nat)(u:Value):Obj.mapSeq (·.setIfInBounds j u) { cls:=.type "list",data:=.seq its.toArray n }={ cls:=.type "list",data:=.seq (its.set j u).toArray n }:=by
 simp[Obj.mapSeq]
def Inv.lst{pins:ii}{σ:St}{H:Hp}{s:Shared}{p:Addr}{xs:ip}(I:Inv X pins σ H s)(h:H p=↑(.lst xs)) :
  ∃(its:gu) (n:Nat),aO xs its/\s.heap.get? p=some { cls:=.type "list",data:=.seq its.toArray n }/\xs.length<=sizeLine:=by
 obtain⟨z,its,n,r,e⟩:=I.hok p _ h;exact⟨its,n,r,e,z⟩
variable{pins:ii}{σ:St}{H:Hp}{s:Shared}{xs ys:ip}{its its':gu}
def Inv.lstUpd{p:Addr}{D:Nat}{f:Obj->Obj}(I:Inv X pins σ H s)(h:H p=↑(.lst xs))(V:s.heap.get? p=some { cls:=.type "list",data:=.seq its.toArray n })(U:f { cls:=.type "list",data:=.seq its.toArray n }={ cls:=.type "list",data:=.seq its'.toArray D })(r:aO ys its')(Y:ys.length<=sizeLine)(t:Nat) :
  Inv X pins σ (a_ H p (.lst ys)) { s with heap:=s.heap.update p f,toks:=t }:=by
 have e:(s.heap.update p f).get? p=some { cls:=.type "list",data:=.seq its'.toArray D }:=by
  rw[gz f V (by rw[U] <;> rfl),U]
 refine I.write (x:=p) (e:=p) (by rw[h];trivial) (.inl rfl) (λb u Z q=>(db _ _ (Ne.symm Z)).trans q) ⟨_,e⟩ ?_;exact⟨Y,its',D,r,e⟩
def BB:V->V->V->Hp->(Hp->Prop)->Prop:=λo i v H Q=>∃p xs k j,o=.ref p/\i=.int k/\H p=↑(.lst xs)/\dJ xs.length k=↑j/\Q (a_ H p (.lst (xs.set j v)))
def vB:kL X BB:=by
 intro pins s σ H o i v l m u Q I ro d e h;obtain⟨p,xs,k,j,rfl,rfl,Y,f,q⟩:=h;cases ro;obtain⟨t,rfl⟩:=d;obtain⟨its,n,r,D,g⟩:=I.lst Y;obtain⟨h1,h2,Z,a⟩:=v8 f;have U:=r.length;have w:=lJ;have b:Inv X pins σ (a_ H p (.lst (xs.set j v))) { s with heap:=s.heap.update p (Obj.mapSeq (·.setIfInBounds j u)) } :=
  I.lstUpd Y D (Hv its n j u) (r.set e j) (by rw[d7];exact g) s.toks
 by_cases c:0<=k
 ·have V:k.toNat=j:=by
   rw[seqIndex_of c a] at h1;exact b9 h1
  exact PySem.W.ki_setAt D c (by omega) (by rw[b8,<-U];exact a) (by rw[V];exact⟨_,b,q⟩)
 ·have V:(k+(its.toArray.size:Int)).toNat=j:=by
   rw[seqIndex_neg (by omega) Z] at h1;rw[b8,<-U];exact b9 h1
  exact PySem.W.ki_setBack D (by omega) (by rw[b8,<-U];exact Z) (by omega) (by rw[V];exact⟨_,b,q⟩)
def Hw(lo hi:h8)(n:Nat):(sliceBounds lo hi none n).1=((HT.sIx n 0 lo:Nat):Int)/\(sliceBounds lo hi none n).2.1=((HT.sIx n n hi:Nat):Int)/\(sliceBounds lo hi none n).2.2=1:=by
 refine⟨?_,?_,rfl⟩
 ·cases lo with
  |none=>simp[sliceBounds,HT.sIx] |some i =>
    simp only[sliceBounds,HT.sIx,Option.getD_none,show(1:Int) > 0 by decide,d6];by_cases h:i<0
    ·simp only[h,d6] <;> omega
    ·simp only[h,ig] <;> omega
 ·cases hi with
  |none=>simp[sliceBounds,HT.sIx] |some i =>
    simp only[sliceBounds,HT.sIx,Option.getD_none,show(1:Int) > 0 by decide,d6];by_cases h:i<0
    ·simp only[h,d6] <;> omega
    ·simp only[h,ig] <;> omega
def Hx(its:gu)(lo hi:h8):slicePick its.toArray lo hi none=((its.drop (HT.sIx its.length 0 lo)).take (HT.sIx its.length its.length hi-HT.sIx its.length 0 lo)).toArray:=by
 obtain⟨h1,h2,D⟩:=Hw lo hi its.toArray.size;unfold slicePick;rw[h1,h2,D];simp only[sliceRange_one,pick_run,b8] <;> rfl
def vC(K:ic):V->h8->h8->Hp->VK->Prop:=λx lo hi H Q=>∃a xs,x=.ref a/\cY K H a xs/\∀p,H p=none->Q (.ref p) (a_ H p (.lst (hV xs lo hi)))
def Hy:B7 X (vC X.K):=by
 intro pins s σ H x v e f lo hi sl Q I V Y pl Z h;obtain⟨a,xs,rfl,c,q⟩:=h;cases V;obtain⟨its,r,U,d⟩:=I.list c;have D:=r.length;refine⟨"list",_,slot_list_getitem.lookup,U.isList.typeIs,?_⟩;refine wpAny_getItem_list_slice U.isList Y pl Z .none ⋯ ?_ (by rw[b8] <;> omega);rw[Hx,<-D];refine⟨.ref s.heap.objs.size,_,I.laid (t':=s.toks) (o:=.lst (hV xs lo hi)) (λb g q=>av _ q) (b6 _) ?_,rfl,q _ (I.hok.fresh (b6 _))⟩;exact⟨cy (Hq xs lo hi) d,_,0,(r.drop (HT.sIx xs.length 0 lo)).take (HT.sIx xs.length xs.length hi-HT.sIx xs.length 0 lo),cj _ rfl⟩
def BC:rq X (.builtin "len") (λxs H Q=>∃p ys,xs=[.ref p]/\(cY X.K H p ys\/dV X.K H p ys)/\Q ↥ys.length H):=by
 intro pins s σ H xs us Q I r h;obtain⟨p,ys,rfl,hq,q⟩:=h;obtain⟨u,rfl,V⟩:=y9 r;cases V;have Z:=lJ;rcases hq with hq |hq
 ·obtain⟨its,U,pl,Y⟩:=I.list hq
  have D:=U.length;exact Calls.call_len_list pl.isList (by simp only[b8] <;> omega) ⟨.int ys.length,H,I.tok _,⟨s.toks+1,by rw[b8,D]⟩,q⟩
 ·obtain⟨its,U,pl,Y⟩:=I.tuple hq
  have D:=U.length;exact len_tuple pl (by simp only[b8] <;> omega) ⟨.int ys.length,H,I.tok _,⟨s.toks+1,by rw[b8,D]⟩,q⟩
def Hz:rq X (.type "list") (λxs H Q=>∃p ys,xs=[.ref p]/\(cY X.K H p ys\/dV X.K H p ys)/\∀l,H l=none->Q (.ref l) (a_ H l (.lst ys))):=by
 intro pins s σ H xs us Q I r h;obtain⟨p,ys,rfl,hq,q⟩:=h;obtain⟨u,rfl,d⟩:=y9 r;cases d;have V:∀(its:gu),aO ys its->ys.length<=sizeLine->∀(h':Heap) (D:Nat),(∀b o',s.heap.get? b=↑o'->h'.get? b=↑o') ->
   h'.get? s.heap.objs.size=some { cls:=.type "list",dict:=none,data:=.seq its.toArray D,slots:=#[] }->EP X pins σ Q (.ref s.heap.objs.size) { s with heap:=h' }:=λits U Y h' D kp e =>
  ⟨.ref s.heap.objs.size,_,I.laid (t':=s.toks) kp (b6 _) (show bR X.prog X.w _ h' _ (.lst ys) from⟨Y,its,D,U,e⟩),rfl,q _ (I.hok.fresh (b6 _))⟩
 rcases hq with hq |hq
 ·obtain⟨its,U,pl,Y⟩:=I.list hq
  have Z:=U.length;obtain⟨o,a,c,n,hd⟩:=pl.isList;exact call_list_seq p (.inl rfl) a c hd (λh' D kp e=>V its U Y h' D kp e) (by simp only[b8] <;> omega)
 ·obtain⟨its,U,pl,Y⟩:=I.tuple hq
  have Z:=U.length;obtain⟨o,a,c,n,hd⟩:=pl;exact call_list_seq p (.inr rfl) a c hd (λh' D kp e=>V its U Y h' D kp e) (by simp only[b8] <;> omega)
def H5:rq X (.type "tuple") (λxs H Q=>∃p ys,xs=[.ref p]/\((cY X.K H p ys/\∀l,H l=none->Q (.ref l) (a_ H l (.tup ys)))\/(dV X.K H p ys/\Q (.ref p) H))):=by
 intro pins s σ H xs us Q I r h;obtain⟨p,ys,rfl,h⟩:=h;obtain⟨u,rfl,a⟩:=y9 r;cases a;rcases h with⟨D,q⟩ | ⟨D,q⟩
 ·obtain⟨its,U,pl,V⟩:=I.list D
  have Y:=U.length;refine call_tuple_list pl.isList (λh' kp=>?_) (by simp only[b8] <;> omega);have Z:Inv X pins σ H { s with heap:=h' }:=I.kept (t':=s.toks) kp;have c:Inv X pins σ (a_ H h'.objs.size (.tup ys)) { s with heap:=h'.push { cls:=.type "tuple",data:=.seq its.toArray } } :=
   Z.laid (t':=s.toks) (λb o e=>av _ e) (b6 _) (show bR X.prog X.w _ _ _ (.tup ys) from⟨V,its,U,IsTup.new _ _⟩)
  exact⟨.ref h'.objs.size,_,c,rfl,q _ (Z.hok.fresh (b6 _))⟩
 ·obtain⟨its,U,pl,V⟩:=I.tuple D
  exact call_tuple_same pl ⟨.ref p,H,I,rfl,q⟩
def vD(K:ic)(T:String)(x:V)(H:Hp):Prop:=match x with
 | .str _=>T = "str" | .int _=>T = "int" | .ref p=>(T = "list"/\∃xs,cY K H p xs)\/(T = "tuple"/\∃o,K.lookup p=↑o/\o.cls=.type "tuple"/\o.dict=none) \/
    (T = "dict"/\((∃kvs,H p=↑(.dK kvs))\/∃kvs,H p=↑(.dT kvs)))\/(T = "set"/\∃S n,H p=↑(.set S n))
 |_=>False
variable{T:String}{x:V}
def BD{v:Value}(I:Inv X pins σ H s)(r:RelV x v)(ty:vD X.K T x H) :
  s.TypeIs v T/\∀a,v=.ref a->∃V,s.heap.get? a=↑V/\V.dict=none:=by
 cases x with
 |str z =>
   obtain⟨t,rfl⟩:=r;cases (show T = "str" from ty);exact⟨typeIs_str s z t,λ_ e=>nomatch e⟩
 |int i =>
   obtain⟨t,rfl⟩:=r;cases (show T = "int" from ty);exact⟨typeIs_int s i t,λ_ e=>nomatch e⟩
 |ref p =>
   cases r;rcases ty with⟨rfl,xs,Y⟩ | ⟨rfl,o,D,hc,hd⟩ | ⟨rfl,D⟩ | ⟨rfl,S,n,D⟩
   ·obtain⟨its,_,pl,_⟩:=I.list Y
    refine⟨pl.isList.typeIs,λa e=>?_⟩;cases e;obtain⟨o,n,e,c,hd,_⟩:=pl;exact⟨o,e,hd⟩
   ·refine⟨⟨o,I.kIn p o D,hc⟩,λa e=>?_⟩
    cases e;exact⟨o,I.kIn _ o D,hd⟩
   ·have z:∃o,s.heap.get? p=↑o/\o.ExactDict:=by
     rcases D with⟨kvs,D⟩ | ⟨kvs,D⟩
     ·obtain⟨_,_,_,_,o,_,_,e,ex,_⟩:=I.hok p _ D
      exact⟨o,e,ex⟩
     ·obtain⟨_,_,_,_,o,_,_,e,ex,_⟩:=I.hok p _ D
      exact⟨o,e,ex⟩
    obtain⟨o,e,ex⟩:=z;refine⟨⟨o,e,ex.1⟩,λa U=>?_⟩;cases U;exact⟨o,e,ex.2.1⟩
   ·obtain⟨o,_,_,_,e,ex,_⟩:=I.hok p _ D
    refine⟨⟨o,e,ex.1⟩,λa U=>?_⟩;cases U;exact⟨o,e,ex.2.1⟩
 |_=>exact False.elim ty
def vE(K:ic)(T:String)(r:V->ip->Hp->VK->Prop)(to:TE):TE:=λσ H Q=>to σ H λx H1=>vD K T x H1/\r x [] H1 Q
def BE(K:ic)(T:String)(r:V->ip->Hp->VK->Prop)(to:TE)(t:TA):TE:=λσ H Q=>to σ H λx H1=>vD K T x H1/\t σ H1 λxs H2=>r x xs H2 Q
variable{r:V->ip->Hp->VK->Prop}{o:Expr}{to:TE}{name:Str}{apos cpos:Pos}{id:String}
def HA(b:PlainAttrs T)(V:Slot T name id)(Y:typeOf (.builtin id)=pure (.type "method_descriptor"))(c:B8 X id r)(d:PE X o to)(D:‹attributeBase o name X.env (eval o X.env)=eval o X.env›)(U:‹(apos.endLine==cpos.line)=true›):PE X (.Call (.Attribute o name apos) [] [] cpos) (vE X.K T r to):=by
 intro pins s σ H Q I h;refine wpAny_Call_method0_late D U (bI (d pins s σ H _ I h) λv e f=>?_);obtain⟨x,H1,Z,a,ty,g⟩:=f;obtain⟨h1,h2⟩:=BD Z a ty;exact⟨T,id,b,V,Y,h1,h2,Calls.callWith_builtin rfl (PySem.evalArgs_none (c pins e σ H1 x [] v [] Q Z a .nil g))⟩
variable{es:h6}{t:TA}
def y8(d:PlainAttrs T)(Y:Slot T name id)(a:typeOf (.builtin id)=pure (.type "method_descriptor"))(f:B8 X id r)(g:PE X o to)(i:PA X (e::es) t)(U:‹attributeBase o name X.env (eval o X.env)=eval o X.env›)(Z:((backTo cpos (starEach (e::es) X.env)).all (λx=>!x.1) && (backToKw cpos (keywordEach [] X.env)).all (λx=>x.1.isSome)
   && decide ((e::es).length+([]:List Keyword).length+(if ([]:List Keyword).isEmpty then 0 else 1)<30))=true:=by rfl)(V:‹(apos.endLine==cpos.line)=true›)(j:‹starEach (e::es) X.env=(false,eval e X.env)::starEach es X.env›)(D:‹(backTo cpos (starEach es X.env)).any (·.1)=false›) :
  PE X (.Call (.Attribute o name apos) (e::es) [] cpos) (BE X.K T r to t):=by
 intro pins s σ H Q I h;refine wpAny_Call_method_late U Z V rfl (bI (g pins s σ H _ I h) λv k l=>?_);obtain⟨x,H1,b,c,ty,m⟩:=l;obtain⟨h1,h2⟩:=BD b c ty;refine⟨T,id,d,Y,a,h1,h2,?_⟩;have hA:=i cpos pins k σ H1 _ b m;rw[j] at hA ⊢;refine Calls.callWith_builtin (by show(false || (backTo cpos (starEach es X.env)).any (·.1))=false;rw[D] <;> rfl) (Calls.evalArgs_plain ?_);exact bI hA λus s2 ⟨vs,H2,I2,r2,q2⟩=>f pins s2 σ H2 x vs v us Q I2 c r2 q2
def lN(X:Cx)(id:String)(r:V->ip->Hp->VK->Prop):Prop :=
 ∀(pins:ii) (s:Shared) (σ:St) (H:Hp) (x:V) (xs:ip) (v:Value) (us:gu) (Q:VK),Inv X pins σ H s->RelV x v->aO xs us->r x xs H Q ->
  wpAny (model X.prog X.w) X.A (call (.builtin id) (v::us)) (EP X pins σ Q) X.xe s
def vF:ip->gu->Prop
 | [],us=>us=[] |x::xs,us=>∃u t,us=u::t/\RelV x u/\aO xs t
variable{us:gu}
def aO.inv(h:aO xs us):vF xs us:=by
 cases h with
 |nil=>exact rfl |cons r t=>exact⟨_,_,rfl,r,t⟩
def aO.one(h:aO [x] us):∃u,us=[u]/\RelV x u:=by
 obtain⟨u,t,e,r,q⟩:=h.inv;exact⟨u,(show t=[] from q.inv) ▸ e,r⟩
def aO.two{y:V}(h:aO [x,y] us):∃u v,us=[u,v]/\RelV x u/\RelV y v:=by
 obtain⟨u,t,e,r,q⟩:=h.inv;obtain⟨v,f,q⟩:=q.one;exact⟨u,v,f ▸ e,r,q⟩
def aO.zero:∀ {us:gu},aO [] us->us=[]
 |_,.nil=>rfl
def aO.dropLast(h:aO xs us):aO xs.dropLast us.dropLast:=by
 induction h with
 |nil=>exact .nil |cons r t ih =>
   cases t with
   |nil=>exact .nil |cons q t'=>exact .cons r ih
def aO.eraseIdx:∀ {xs:ip} {us:gu} (i:Nat),aO xs us->aO (xs.eraseIdx i) (us.eraseIdx i)
 |_,_,_,.nil=>.nil |_,_,0,.cons _ t=>t |_,_,i+1,.cons r t=>.cons r (aO.eraseIdx i t)
def aO.rep{xs:ip}{us:gu}(h:aO xs us):∀k:Nat,aO (List.replicate k xs).flatten (List.replicate k us).flatten
 |0=>.nil |k+1=>by
   rw[jw,jw,de,de];exact aO.append h (aO.rep h k)
def HB(l:List α):l.eraseIdx (l.length-1)=l.dropLast:=by
 induction l with
 |nil=>rfl |cons a r ih =>
   cases r with
   |nil=>rfl |cons b r =>
     have e:(a::b::r).length-1=((b::r).length-1)+1:=by
      have h1:(a::b::r).length=r.length+2:=rfl;have h2:(b::r).length=r.length+1:=rfl;omega
     rw[e,List.eraseIdx_cons_succ,ih];all_goals rfl
def BF{α:Type}:∀(l:List α) (i:Nat),(l.eraseIdx i).length<=l.length
 | [],_=>b6 _ |_::_,0=>mv _ |_::r,i+1=>Nat.succ_le_succ (BF r i)
def BG(its:gu):∀(k:Nat) (D:gu),
  List.foldl (λI x2=>I++x2) D.toArray (List.replicate k its.toArray)=(D++(List.replicate k its).flatten).toArray
 |0,D=>by simp |k+1,D=>by
   have e:D.toArray++its.toArray=(D++its).toArray:=by simp
   have U:(D++its)++(List.replicate k its).flatten=D++(List.replicate (k+1) its).flatten:=by
    rw[jw,de,cx]
   rw[<-U,<-BG its k (D++its),<-e,jw,List.foldl_cons]
variable{t':Nat}{l:Addr}
def Inv.lset{f:ik->ik}(I:Inv X pins σ H s)(D:H l=↑(.lst xs))(e:s.heap.get? l=some { cls:=.type "list",data:=.seq its.toArray n })(U:f its.toArray=its'.toArray)(V:aO ys its')(Y:ys.length<=sizeLine) :
  Inv X pins σ (a_ H l (.lst ys)) { s with heap:=s.heap.update l (Obj.mapSeq f),toks:=t' }:=by
 have q:=PySem.IsL.update e f;rw[U] at q;refine I.write (x:=l) (e:=l) (by rw[D];exact trivial) (.inl rfl) (λb u Z a=>(db s.heap (Obj.mapSeq f) (Ne.symm Z)).trans a) ⟨_,q⟩ ?_;exact⟨Y,its',_,V,q⟩
def Inv.lnew(I:Inv X pins σ H s)(D:aO ys its)(U:ys.length<=sizeLine) :
  Inv X pins σ (a_ H s.heap.objs.size (.lst ys)) { s with heap:=s.heap.push { cls:=.type "list",data:=.seq its.toArray },toks:=t' } :=
 I.laid (λ_ _ q=>av _ q) (b6 _) ⟨U,its,0,D,cj _ rfl⟩
def Inv.fresh(I:Inv X pins σ H s):H s.heap.objs.size=none:=I.hok.fresh (b6 _)
def Inv.lstM(I:Inv X pins σ H s)(D:H l=↑(.lst xs)):xs.length<=sizeLine/\∃(its:gu) (n:Nat),aO xs its/\xs.length=its.length/\s.heap.get? l=some { cls:=.type "list",data:=.seq its.toArray n }:=by
 obtain⟨z,its,n,r,e⟩:=I.hok l _ D;exact⟨z,its,n,r,r.length,e⟩
def BH(h:n<=sizeLine):Builtin.List.listTooLong n=false:=by
 unfold Builtin.List.listTooLong;exact dw (by omega)
def HD:V->ip->Hp->VK->Prop:=λx vs H Q=>∃l xs y,x=.ref l/\vs=[y]/\H l=↑(.lst xs)/\xs.length<sizeLine/\Q .non (a_ H l (.lst (xs++[y])))
theorem vG:lN X "list.append" HD:=by
 intro pins s σ H x vs v us Q I U V h;obtain⟨l,xs,y,rfl,rfl,D,Z,q⟩:=h;cases U;obtain⟨u,rfl,Y⟩:=V.one;obtain⟨z,its,n,r,a,e⟩:=I.lstM D;refine nr F.slot_list_append ⟨_,e,rfl⟩ F.entry_list_append (F.args_list_append_2 _ _) (PySem.list_append l its.toArray n u (by rw[b8];omega)) ⟨e,?_⟩;refine⟨.non,_,I.lset (its':=its++[u]) D e ⋯ (r.append (.cons Y .nil)) ?_,rfl,q⟩;rw[ak,d5];omega
def HE:V->ip->Hp->VK->Prop:=λx vs H Q=>∃l b xs D,x=.ref l/\vs=[.ref b]/\H l=↑(.lst xs)/\H b=↑(.lst D)/\xs.length+D.length<=sizeLine/\Q .non (a_ H l (.lst (xs++D)))
theorem HF:lN X "list.extend" HE:=by
 intro pins s σ H x vs v us Q I Z a h;obtain⟨l,b,xs,k,rfl,rfl,Y,c,m,q⟩:=h;cases Z;obtain⟨u,rfl,d⟩:=a.one;cases d;obtain⟨z,its,n,r,o,e⟩:=I.lstM Y;obtain⟨p,D,f,g,i,j⟩:=I.lstM c;have V:its.toArray.size+D.toArray.size<=sizeLine:=by rw[b8,b8];omega
 have U:¬(!its.toArray.isEmpty && Builtin.List.listTooLong (its.toArray.size+D.toArray.size))=true:=by
  rw[BH V,Bool.and_false];exact cz
 refine nr F.slot_list_extend ⟨_,e,rfl⟩ F.entry_list_extend (F.args_list_extend_2 _ _)
  (AutoSeq1.list_extend_list_list_0 l its.toArray n b D.toArray f U (by rw[b8];omega) (by omega)) ⟨e,j,?_⟩
 refine⟨.non,_,I.lset (its':=its++D) Y e ⋯ (r.append g) ?_,rfl,q⟩;rw[ak];omega
def vH:V->ip->Hp->VK->Prop:=λx vs H Q=>∃l xs y,x=.ref l/\vs=[]/\H l=↑(.lst xs)/\xs[xs.length-1]?=↑y/\Q y (a_ H l (.lst xs.dropLast))
theorem HG:lN X "list.pop" vH:=by
 intro pins s σ H x vs v us Q I Y Z h;obtain⟨l,xs,y,rfl,rfl,V,a,q⟩:=h;cases Y;have D:=Z.zero;subst D;obtain⟨z,its,n,r,b,e⟩:=I.lstM V;obtain⟨u,c,d⟩:=r.get a;have U:its.toArray[its.toArray.size-1]?=↑u:=by
  show its.toArray[its.length-1]?=↑u;rw[<-Array.getElem?_toList,<-b];exact c
 refine nr F.slot_list_pop ⟨_,e,rfl⟩ F.entry_list_pop (F.args_list_pop_1 _) (MeetsSeq.list_pop_last l its.toArray n u U (by rw[b8];omega)) ⟨e,?_⟩;refine⟨y,_,I.lset (its':=its.dropLast) V e ?_ r.dropLast ?_,d,q⟩
 ·show its.toArray.eraseIdxIfInBounds (its.toArray.size-1)=its.dropLast.toArray
  rw[b8,uo,HB]
 ·rw[qg]
  omega
def HH:V->ip->Hp->VK->Prop:=λx vs H Q=>∃l xs i k y,x=.ref l/\vs=[↥i]/\H l=↑(.lst xs)/\-(2 ^ 63)<=i/\i<2 ^ 63/\seqIndex? i xs.length=↑k/\xs[k]?=↑y/\Q y (a_ H l (.lst (xs.eraseIdx k)))
theorem HJ:lN X "list.pop" HH:=by
 intro pins s σ H x vs v us Q I V Y h;obtain⟨l,xs,i,k,y,rfl,rfl,U,h1,h2,Z,a,q⟩:=h;cases V;obtain⟨u,rfl,b⟩:=Y.one;obtain⟨t,rfl⟩:=b;obtain⟨z,its,n,r,c,e⟩:=I.lstM U;obtain⟨w,d,D⟩:=r.get a;refine nr F.slot_list_pop ⟨_,e,rfl⟩ F.entry_list_pop (F.args_list_pop_2 _ _)
  (MeetsSeq.list_pop_at l its.toArray n i t k w (fitsIndex_both h1 h2) (by rw[b8,<-c];exact Z) (by rw[<-Array.getElem?_toList];exact d) (by rw[b8];omega)) ⟨e,?_⟩
 refine⟨y,_,I.lset (its':=its.eraseIdx k) U e ?_ (r.eraseIdx k) ?_,D,q⟩
 ·show its.toArray.eraseIdxIfInBounds k=(its.eraseIdx k).toArray
  rw[uo]
 ·have:=BF xs k
  omega
def vI:R2:=λx y H Q=>∃l k xs,x=.ref l/\y=.int k/\H l=↑(.lst xs)/\-(2 ^ 63)<=k/\k<2 ^ 63/\xs.length*k.toNat<=sizeLine /\
 ∀p,H p=none->Q (.ref p) (a_ H p (.lst (List.replicate k.toNat xs).flatten))
def HK(xs:List α)(k:Nat):(List.replicate k xs).flatten.length=k*xs.length:=by
 induction k with
 |zero=>simp |succ k ih=>rw[jw,de,ak,ih,Nat.succ_mul,Nat.add_comm]
theorem HM:fN X (binaryOp .Mult) vI:=by
 intro pins s σ H x y v u Q I f g h;obtain⟨l,k,xs,rfl,rfl,i,h1,h2,d,q⟩:=h;cases f;obtain⟨t,rfl⟩:=g;obtain⟨z,its,n,r,j,e⟩:=I.lstM i;have V:its.toArray.size*k.toNat<=sizeLine:=by rw[b8,<-j];exact d
 have Y:¬its.toArray.size*k.toNat > (2 ^ 63-1) / 8:=by
  have:(sizeLine:Nat)<=(2 ^ 63-1) / 8:=by decide
  omega
 have Z:¬(!Builtin.List.listFitsIndex k)=true:=by
  rw[fitsIndex_both h1 h2];exact cz
 have D:¬Builtin.List.listTooLong (its.toArray.size*k.toNat)=true:=by
  rw[BH V];exact cz
 have b:List.foldl (λc x2=>c++x2) #[] (List.replicate (if its.toArray.isEmpty=true then 0 else k.toNat) its.toArray)=(List.replicate k.toNat its).flatten.toArray:=by
  have o:∀m:Nat,List.foldl (λc x2=>c++x2) #[] (List.replicate m its.toArray)=(List.replicate m its).flatten.toArray:=λm=>by
   have:=BG its m [];rw[j2] at this;exact this
  rw[o];cases its with
  |nil=>simp |cons a r'=>rw[cb ⋯]
 refine wpAny_binaryOp_repeat_ref (T:="list") (U:="int") (by decide) ⟨_,e,rfl⟩ (λs'=>typeIs_int s' k t) noFill_list_mul F.fills_int_mul F.slot_int_rmul repeat_list F.slot_int_index.lookup
  (nr F.slot_int_rmul (typeIs_int s k t) F.entry_int_rmul (F.args_int_rmul_2 _ _) (int___rmul___int_list k t l its.toArray n)
    ⟨e,rfl,⟨_,e,rfl⟩,nr F.slot_list_mul ⟨_,e,rfl⟩ F.entry_list_mul (F.args_list_mul_2 _ _) (AutoListH.list___mul___list_int_3 l its.toArray n k t Z Y D) ⟨e,?_⟩⟩)
 rw[b];exact⟨.ref _,_,I.lnew (t':=s.toks) (r.rep k.toNat) (by rw[HK,Nat.mul_comm];exact d),rfl,q _ I.fresh⟩
end L2
namespace Att
open PySem PySem.W PySem.Calls PyProof.Rows
variable{P:Params}{h:Heap}
def HN:∀(ns:g8) (vs:gu),WellAll P h vs (ns.map WData.int)->IntsAre vs ns:=by
 intro ns;induction ns with
 |nil =>
   intro vs w;rw[di] at w;cases w;exact .nil
 |cons n ns ih =>
   intro vs w;rw[bq] at w;cases w with
   |cons a b =>
     cases a;exact .cons _ _ (ih _ b)
variable{l:OpenLaw}{n:Nat}
def HQ(e:l.most=↑n){args:List WData}{D:gu}(I:l.row.toRowW.claim.pre args=true)(Z:WellAll P h D args) :
  ∃a vs ns,D=[Value.ref a]/\args=[WData.list (ns.map WData.int)]/\h.get? a=some { cls:=.type "list",data:=.seq vs.toArray }/\IntsAre vs ns/\ns.length<=n:=by
 have b:WShape.hasAll [] args [.list .int]=true:=(pre_splitW I).1;have c:l.pre.holds [] { args:=args }=true:=(pre_splitW I).2;obtain⟨d,r,rfl,h1,h2⟩:=hasAllW_cons b;obtain rfl:=hasAllW_nil h2;obtain⟨xs,rfl,f⟩:=hasW_list h1;obtain⟨ns,rfl⟩:=items_int f;have U:ns.length<=n:=by
  unfold OpenLaw.pre at c;have V:(WTm.not (.lt (.lit ↥(n:Int)) (.len (.arg 0)))).holds [] { args:=[.list (ns.map .int)] }=true:=by
   have V:=(holds_andW c).1;rw[e] at V;exact V
  have Y:=condW_of V (w_not (w_lt w_lit (w_len_list (w_arg rfl))));rw[ai] at Y;refine ja λq=>?_;have g:(n:Int)<((ns.length:Nat):Int):=by omega
  first
   | (rw[il g] at Y;exact absurd Y (by decide))
   | (simp at Y;omega)
 cases Z with
 |cons w1 w2 =>
   cases w2;cases w1 with
   |list ho hall=>exact⟨_,_,ns,rfl,rfl,ho,HN ns _ hall,U⟩
def HR(l:OpenLaw)(args:List WData):l.row.toRowW.claim.post args (.bool true) args=true :=
 postW_of (r:=l.row.toRowW) (X:=(true==true))
  (show WShape.has [] (.bool true) .bool=true by first |rfl |decide |simp[WShape.has,WShape.arms,WShape.armsAll])
  (show(WTm.eq .res (.lit (.bool true))).value [] { args:=args,res:=↑(.bool true),after:=args }=↑(.bool (true==true)) from w_eq_bool (w_res rfl) w_lit) rfl
def attach_call{q:Program}{I:gs}{m:(Str->gx)->Heap->Prop}{p:World->Heap->Prop}{d:DefRec}(v:l.most=↑n)(e:d.params.defaults=[])(call:∀(w:World) (s₀ D:Shared) (mg g:Str->gx) (fa:Addr) (o:Obj) (h cd U:Value) (a:Addr) (vs:gu) (ns:g8),
   Ground q I [] m w s₀ mg g D.heap->p w D.heap ->
   D.heap.get? fa=↑o->o.data=.func (docDef d.name d.params d.body d.scope h cd U)->D.heap.CodeRec cd d.name->mg d.name=↑(.ref fa) ->
   D.heap.get? a=some { cls:=.type "list",data:=.seq vs.toArray }->IntsAre vs ns->ns.length<=n->D.gens=#[] ->
   codeAny (model l.prog w) callerA (.call (.ref fa) ⟨[.ref a],[]⟩) (λr s'=>r=.ok (.ret (.bool true))/\OldK D.heap s'.heap/\s'.os=D.os/\AllBare s'.gens) D) :
  WalkO q I m p l.row.toRowW d [] (λf vs=>PySem.call f vs):=by
 intro w s₀ D mg g G Y fa o h cd U x kV y hd i s j z args t as Z u A k B;obtain rfl:x=.none:=Dflts.none s e;obtain rfl:kV=.none:=Dflts.noKw s;obtain⟨a,vs,ns,rfl,rfl,b,V,c⟩:=HQ v Z k;refine enter_call (jp (call w s₀ D mg g fa o h cd U a vs ns G Y y (fd_plain hd) i j b V c z) λr s' C=>?_);obtain⟨rfl,h2,E,F⟩:=C;exact⟨.inl ⟨.bool true,.bool true,[],rfl,λ_=>rfl,.bool true,HR l _,λ_=>⟨List.Pairwise.nil,λ_ H=>(nomatch H)⟩⟩,h2,E,F⟩
end Att
namespace L2
open PySem PySem.Spec PyProof.Rows
def BI:∀ {vs:gu} {ns:g8},IntsAre vs ns->aO (ns.map V.int) vs
 |_,_,.nil=>.nil |_,_,.cons n t h=>.cons ⟨t,rfl⟩ (BI h)
def kP(H:Hp):Prop:=∀b,H b=none\/∃o xs,H b=↑(.frz o (.lst xs))
variable{w:World}{K:ic}{k:Nat}{a:Addr}{x:Str}{vs:gu}
def HS{P:Program}{mg C:Str->gx}{CX:gW}{fa:Addr}{fd:FuncData}{sp:Sp}{D:Shared}{ns:g8}(M:K.In D.heap)(f:D.heap.Ns mainGlobals mg)(U:D.heap.Ns builtinsNs C)(E:∀x:Str,x ≠ "__name__"->C x=bootBuiltins x)(g:D.heap.NoLimit)(S:D.gens=#[])(B:D.heap.get? a=some { cls:=.type "list",data:=.seq vs.toArray })(hi:IntsAre vs ns)(N:ns.length<=sizeLine)(T:bE k callerA)(F:∀base:Heap,K.In base->base.Ns mainGlobals mg->cJ P w K mg base CX k fa fd [x] sp)(c:∀(s:Shared) (u:Value),BindsTo s fd ⟨[u],[]⟩ [(x,u)])(G:∀H:Hp,kP H->cY K H a (ns.map V.int)->sp [.ref a] H (λv _=>v=.bl true) λ_ _ _=>False)(J:∀H e s',CX [] H D (λ_ _ _=>False) e s'->False) :
  codeAny (model P w) callerA (.call (.ref fa) ⟨[.ref a],[]⟩) (λr s'=>r=.ok (.ret (.bool true))/\OldK D.heap s'.heap/\s'.os=D.os/\AllBare s'.gens) D:=by
 have O:=BI hi;have i:=hi.length;have Z:∀H:Hp,kP H->cY K H a (ns.map V.int)->eJ P w H D.heap->(∀b,H b≠none->b=a)->(H a≠none->K.lookup a=none) ->
   codeAny (model P w) callerA (.call (.ref fa) ⟨[.ref a],[]⟩) (λr s'=>r=.ok (.ret (.bool true))/\OldK D.heap s'.heap/\s'.os=D.os/\AllBare s'.gens) D:=by
  intro H Q W j hA X;have I:∀ {b:Addr} {o:Obj},D.heap.get? b=↑o->H b=none->(gC D.heap H).get? b=↑o:=λe n=>FU e n;have L:∀ {b:Addr} {o:Obj} {es:Array DictEntry} {l:Nat},D.heap.get? b=↑o->o.data=.dict es l->H b=none:=λ{b o es l} e d=>by
   cases q:H b with
   |none=>rfl |some u =>
     have e':b=a:=hA b (by rw[q];simp);subst e';rw[B] at e;cases e;have d':Data.seq vs.toArray _=Data.dict es l:=d;cases d'
  have Y:∀ {b:Addr} {m:Str->gx},D.heap.Ns b m->(gC D.heap H).Ns b m:=λ{b m} ⟨o,es,l,e,d,r⟩=>⟨o,es,l,I e (L e d),d,r⟩;have p:K.In (gC D.heap H):=λb o e=>I (M b o e) (by
   cases q:H b with
   |none=>rfl |some u =>
     have e':b=a:=hA b (by rw[q];simp);subst e';rw[X (by rw[q];simp)] at e;cases e)
  have hM:Mod K mg (gC D.heap H):=⟨p,Y f,⟨C,Y U,E⟩,let ⟨mc,h1,h2⟩:=g;⟨mc,Y h1,h2⟩⟩;have e0:gD P w K mg (gC D.heap H) callerA [] D H:=⟨rfl,hM,λb o e=>FW e,Nat.le_of_eq (FR _ _),trivial,λb U=>absurd (show b∈([]:gy) from U) ⋯,j,.of_eq S⟩;refine jp ((F _ p (Y f)).run callerA [] D H ⟨[.ref a],[]⟩ [.ref a] [.ref a] _ _ T e0 (c D (.ref a)) (.cons rfl .nil) (G H Q W)) λr s' h=>?_;cases r with
  |error e=>exact(J H e s' h).elim |ok fl =>
    cases fl with
    |next=>exact False.elim h |brk=>exact False.elim h |cont=>exact False.elim h |ret u =>
      obtain⟨v,H',os,t,un,y,r',q⟩:=h;have q':v=.bl true:=q;subst q';obtain rfl:u=Value.bool true:=r';refine⟨rfl,OldK.of_keep λb o e=>?_,os,t⟩;cases q:H b with
      |none=>exact un.keep b o e q (by intro z;exact absurd (show b∈([]:gy) from z) ⋯) ⋯
      |some u =>
        rcases Q b with z | ⟨ob,xs,z⟩
        ·rw[q] at z;cases z
        ·have z2:=un.frzs b ob _ z
         obtain⟨R,_⟩:=j b _ z;obtain⟨e2,_⟩:=y b _ z2;rw[e] at R;cases R;exact e2
 cases hk:K.lookup a with
 |some o =>
   have e:=M a o hk;rw[B] at e;cases e;refine Z (λ_=>none) (λ_=>.inl rfl) (.inr ⟨_,vs.toArray,_,hk,rfl,rfl,rfl,by rw[b8,i];exact N,by simpa using O⟩) (λb u z=>by have A:(none:Option HO)=↑u:=z;cases A) (λb z=>absurd rfl z) λz=>absurd rfl z
 |none =>
   refine Z (λb=>if b=a then ↑(.frz { cls:=.type "list",data:=.seq vs.toArray } (.lst (ns.map V.int))) else none) (λb=>?_) (.inl (.inr ⟨{ cls:=.type "list",data:=.seq vs.toArray },ax rfl⟩)) (λb u z=>?_) (λb z=>?_) λ_=>hk
   ·by_cases U:b=a
    ·exact .inr ⟨_,_,ax U⟩
    ·exact .inl (cb U)
   ·by_cases U:b=a
    ·have A:=(ax U).symm.trans z
     cases A;subst U;exact⟨B,by rw[ai];exact N,vs,_,O,B⟩
    ·have A:=(cb U).symm.trans z
     cases A
   ·by_cases U:b=a
    ·exact U
    ·exact absurd (cb U) z
variable{l:Addr}{n:Nat}{q:FT}{d:D}
def HU{l:PySem.W.OpenLaw}{q:Program}{I:gs}{z:(Str->gx)->Heap->Prop}{t:World->Heap->Prop}{d:DefRec}{K:Params->ic}{CX:World->gW}{sp:World->Sp}(A:l.most=↑n)(i:n<=sizeLine)(j:d.params.defaults=[])(B:bE k callerA)(C:∀(w:World) (h:Heap),t w h->(K w.params).In h)(F:∀(w:World) (mg:Str->gx) (fa:Addr) (h:Heap),(K w.params).In h->h.Ns mainGlobals mg->mg d.name=↑(.ref fa) ->
   ∃fd:FuncData,(∀(s:Shared) (u:Value),BindsTo s fd ⟨[u],[]⟩ [(x,u)]) /\
    ∀base:Heap,(K w.params).In base->base.Ns mainGlobals mg->cJ l.prog w (K w.params) mg base (CX w) k fa fd [x] (sp w))(m:∀(w:World) (H:Hp) (a:Addr) (ns:g8),ns.length<=n->kP H->cY (K w.params) H a (ns.map V.int)->sp w [.ref a] H (λv _=>v=.bl true) λ_ _ _=>False)(p:∀(w:World) (H:Hp) (s:Shared) (e:Value) (s':Shared),CX w [] H s (λ_ _ _=>False) e s'->False) :
  PySem.W.WalkO q I z t l.row.toRowW d [] (λf vs=>PySem.call f vs):=by
 refine Att.attach_call A j λw s₀ Z mg Q fa o R cd E a vs ns G Y S hd J r c U D L=>?_;have y:=C w _ Y;obtain⟨fd,M,N⟩:=F w mg fa _ y G.T.g r;exact HS y G.T.g G.T.b G.T.builtins G.T.nolimit L c U (cy D i) B N M (λH O P=>m w H a ns D O P) λH e s'=>p w H Z e s'
def xt(s:Stmt):Arguments:=match s with
 | .FunctionDef _ a _ _ _ _ _ _ _ _=>a |_=>{ posonlyargs:=[],args:=[],vararg:=none,kwonlyargs:=[],kw_defaults:=[],kwarg:=none,defaults:=[] }
def o9(s:Stmt):List Stmt:=match s with
 | .FunctionDef _ _ b _ _ _ _ _ _ _=>b |_=>[]
def iy(s:Stmt):Scope:=match s with
 | .FunctionDef _ _ _ _ _ _ sc _ _ _=>sc |_=>{ kind:=.function,names:=[],isGenerator:=false,isCoroutine:=false }
abbrev cD:gW:=λ_ _ _ _ _ _=>False
abbrev E0:XK:=λ_ _ _=>False
variable{X:Cx}
def qO:vx cD X E0:=λ_ _ _ _ _ _ _ h=>h.elim
structure gN (K:ic) (x qual:Str) (st:Stmt) (f:Addr) (fd:FuncData):Prop where
 ex:∃(oc:Value) (od:Option Addr) (kV doc pm:Value) (an:Option Addr) (cdv ct:Value) (osl:Array gx),
  fd=PySem.W.fnOf x qual (xt st) (o9 st) (iy st) .none kV doc pm an cdv ct/\K.lookup f=↑⟨oc,od,.func fd,osl⟩/\PySem.W.codeIn K cdv qual=true
 kp:PySem.W.keepIn K (.ref f)=true
variable{f:FE}
def vJ{qual:Str}{st:Stmt}{f:Addr}{oc:Value}{od an:Option Addr}{osl:Array gx}{kV D I cdv ct:Value}(l:K.lookup f=↑⟨oc,od,.func (PySem.W.fnOf x qual (xt st) (o9 st) (iy st) .none kV D I an cdv ct),osl⟩)(c:PySem.W.codeIn K cdv qual=true)(k:PySem.W.keepIn K (.ref f)=true):gN K x qual st f (PySem.W.fnOf x qual (xt st) (o9 st) (iy st) .none kV D I an cdv ct):=⟨⟨oc,od,kV,D,I,an,cdv,ct,osl,rfl,l,c⟩,k⟩
variable{A:Around}
def BJ(D:bE k A):A.units+1<cLine:=l9 (Nat.add_le_add_left (by decide:1<=64) _) D.units
def bG(H H':Hp):Prop:=∀b o,H b=↑o->H' b=↑o
def bG.refl(H:Hp):bG H H:=λ_ _ h=>h
variable{H H1 H2:Hp}
def bG.trans(a:bG H H1)(b:bG H1 H2):bG H H2:=λc o h=>b c o (a c o h)
variable{H':Hp}
def bG.free(e:bG H H')(h:H' l=Option.none):H l=Option.none:=by
 cases q:H l with
 |none=>rfl |some o =>
   rw[e l o q] at h;cases h
def vK{env:Env}:∀(names:List (Str×NameKind)) (D:List (Str×Addr)),
  (∀y∈names,y.2=.free->∃c,env.cells.lookup y.1=↑c)->(∀y c,D.lookup y=↑c->env.cells.lookup y=↑c) ->
  ∃cl,(forIn names D λ(x:Str×NameKind) (cs:List (Str×Addr))=>if (x.2==NameKind.free)=true then(do let c <-cellOf env x.1;pure (ForInStep.yield ((x.1,c)::cs)):Sem _) else pure (ForInStep.yield cs))=pure cl /\
   (∀y c,cl.lookup y=↑c->env.cells.lookup y=↑c)/\(∀y c,D.lookup y=↑c->∃U,cl.lookup y=↑U)/\∀y∈names,y.2=.free->∃c,cl.lookup y.1=↑c
 | [],D,_,ha=>⟨D,rfl,ha,λy c e=>⟨c,e⟩,λ_ h=>nomatch h⟩ | (n,k)::r,D,hn,ha=>by
   by_cases Y:k=.free
   ·subst Y
    obtain⟨c,a⟩:=hn (n,.free) bi rfl;obtain⟨cl,e,h1,h2,Z⟩:=vK r ((n,c)::D) (λy hy=>hn y (ay _ hy)) (λy U e=>by
     rw[dh] at e;cases hq:y==n with
     |true=>rw[hq] at e;cases e;rw[eq_of_beq hq];exact a
     |false=>rw[hq] at e;exact ha y U e)
    have I:List.lookup n ((n,c)::D)=↑c:=by simp[dh]
    refine⟨cl,?_,h1,λy U e'=>?_,λy hy V=>?_⟩
    ·rw[List.forIn_cons]
     have b:cellOf env n=pure c:=by unfold cellOf;rw[a]
     simp only[nv,d6,b,pure_bind];exact e
    ·cases hq:y==n with
     |true=>rw[eq_of_beq hq];exact h2 n c I |false=>exact h2 y U (by rw[dh,hq];exact e')
    ·rcases cf.mp hy with rfl |hy
     ·exact h2 n c I
     ·exact Z y hy V
   ·obtain⟨cl,e,h1,h2,Z⟩:=vK r D (λy hy=>hn y (ay _ hy)) ha
    refine⟨cl,?_,h1,h2,λy hy V=>?_⟩
    ·rw[List.forIn_cons]
     have d:(k==NameKind.free)=false:=by cases k <;> first |rfl |exact absurd rfl Y
     simp only[d,du,ig,pure_bind];exact e
    ·rcases cf.mp hy with rfl |hy
     ·exact absurd V Y
     ·exact Z y hy V
variable{sc:Scope}{env:Env}
def vL(h:∀y∈sc.names,y.2=.free->∃c,env.cells.lookup y.1=↑c) :
  ∃cl,closureFor sc env=pure cl/\(∀y c,cl.lookup y=↑c->env.cells.lookup y=↑c)/\∀y∈sc.names,y.2=.free->∃c,cl.lookup y.1=↑c:=by
 obtain⟨cl,e,h1,_,D⟩:=vK (env:=env) sc.names [] h (λy c e=>by simp at e);refine⟨cl,?_,h1,D⟩;unfold closureFor;rw[show(pure cl:Sem _)=(pure cl >>= λcs=>pure cs) by rw[pure_bind],<-e]
def vM{env:Env}:∀ {names:List (Str×NameKind)} {x:Str} {k:NameKind},
  (names.map λ(n,k)=>if (k==NameKind.free && env.scope.kind==.function && env.kindOf n==some .cell) then(n,NameKind.cell) else(n,k)).lookup x=↑k ->
  names.lookup x=↑k\/(names.lookup x=some .free/\k=.cell)
 | (n,k0)::r,x,k,h=>by
   have I:=@vM env r x k;have h:List.lookup x ((if (k0==NameKind.free && env.scope.kind==.function && env.kindOf n==some .cell)=true then(n,NameKind.cell) else(n,k0))::_)=_:=h;cases hx:x==n with
   |true =>
     by_cases D:(k0==NameKind.free && env.scope.kind==.function && env.kindOf n==some .cell)=true
     ·rw[ax D] at h
      simp only[dh,hx] at h ⊢;simp only[fq,l8] at D;cases h;exact .inr ⟨by rw[D.1.1],rfl⟩
     ·rw[cb D] at h
      simp only[dh,hx] at h ⊢;exact .inl h
   |false =>
     by_cases D:(k0==NameKind.free && env.scope.kind==.function && env.kindOf n==some .cell)=true
     ·rw[ax D] at h
      simp only[dh,hx] at h ⊢;exact I h
     ·rw[cb D] at h
      simp only[dh,hx] at h ⊢;exact I h
def lO{env:Env}:∀ {names:List (Str×NameKind)} {x:Str},names.lookup x=some .free ->
  (names.map λ(n,k)=>if (k==NameKind.free && env.scope.kind==.function && env.kindOf n==some .cell) then(n,NameKind.cell) else(n,k)).lookup x=some .cell \/
  (names.map λ(n,k)=>if (k==NameKind.free && env.scope.kind==.function && env.kindOf n==some .cell) then(n,NameKind.cell) else(n,k)).lookup x=some .free
 | (n,k0)::r,x,h=>by
   have I:=@lO env r x;show List.lookup x ((if (k0==NameKind.free && env.scope.kind==.function && env.kindOf n==some .cell)=true then(n,NameKind.cell) else(n,k0))::_)=_\/List.lookup x ((if (k0==NameKind.free && env.scope.kind==.function && env.kindOf n==some .cell)=true then(n,NameKind.cell) else(n,k0))::_)=_;cases hx:x==n with
   |true =>
     simp only[dh,hx] at h;cases h;by_cases D:(NameKind.free==NameKind.free && env.scope.kind==.function && env.kindOf n==some .cell)=true
     ·rw[ax D];simp only[dh,hx];exact .inl trivial
     ·rw[cb D];simp only[dh,hx];exact .inr trivial
   |false =>
     simp only[dh,hx] at h;by_cases D:(k0==NameKind.free && env.scope.kind==.function && env.kindOf n==some .cell)=true
     ·rw[ax D];simp only[dh,hx];exact I h
     ·rw[cb D];simp only[dh,hx];exact I h
def kz(X:Cx)(x:Str)(N':gs)(sc:Scope)(cl:List (Str×Addr))(C:Addr)(s₂:Shared)(H₂:Hp)(fp:gy):Cx :=
 { X with N:=x::N',s₀:=s₂,H₀:=H₂,env:=compEnvC sc cl C X.env,outer:=X.stack,stack:=X.stack,ex:=fp,fn:=λ_=>false,pn:=[],xe:=λ_ _=>False }
def gE(X:Cx)(ifs:h6)(tt:TT):Prop :=
 ∀(pins:ii) (s:Shared) (σ:St) (H:Hp) (Q:Bool->Hp->Prop),Inv X pins σ H s->tt σ H Q ->
  wpAny (model X.prog X.w) X.A (forIn ifs true λc r=>if r=true then do let ok <-isTrue c X.env (eval c X.env);pure (ForInStep.yield ok) else pure (ForInStep.yield r)) (TP X pins σ Q) X.xe s
def vN:TT:=λ_ H Q=>Q true H
def HV:gE X [] vN:=λ_ _ _ H _ I h=>wpAny_tests_nil ⟨H,I,h⟩
variable{c:Expr}
def HW{tc:TT}(h:PT X c tc):gE X [c] tc:=λpins s σ H Q I q=>wpAny_tests_one (h pins s σ H Q I q)
def yd(wi:TI)(ix:g7)(tt:TT)(te:TE):TE:=λσ H Q=>wi σ H λJ H1=>∃W:Nat->Nat->Hp->ip->Prop,(∃m,W 0 m H1 [])/\∀i m H ys,W i m H ys ->
 (J.stop i H/\ys.length<=sizeLine/\∀D,H D=none->Q (.ref D) (a_ H D (.lst ys))) \/
 (J.go i H/\∀x H',J.yld i H x H'->tt (↑x::ix.map (λj=>σ.getD j none)) H' λb H2 =>
   if b=true then te (↑x::ix.map (λj=>σ.getD j none)) H2 λv U=>ys.length<sizeLine/\∃I,I<m/\W (i+1) I U (ys++[v]) else ∃I,I<m/\W (i+1) I H2 ys)
abbrev lobj(ys:gu):Obj:={ cls:=.type "list",data:=.seq ys.toArray ys.length }
variable{ys:ip}{y:Str}
def aO.snoc{y:V}{u:Value}(h:aO ys vs)(r:RelV y u):aO (ys++[y]) (vs++[u]):=aO.append h (.cons r .nil)
def HX(vs:gu)(u:Value):({ cls:=.type "list",data:=.seq (vs.toArray.push u) (vs.length+1) }:Obj)=lobj (vs++[u]):=LCg.lst_snoc vs u
variable{R:Result->Shared->Prop}{s:Sl}{elt iter:Expr}{ifs:h6}{pos:Pos}
def HY{prog:Program}{s:Shared}{D:Expr}{scope:Scope}{it d:Value}(I:Nat->Shared->Prop)(turn:∀n s,I n s->wpAny (model prog w) A (pyNext it) (λr U=>match r with
   |none=>R (.ok .next) U |some v => wpAny (model prog w) A (letOwnedTupleGo D it v) (λ_ V => wpAny (model prog w) A (assign D env v) (λ_ s₂ => wpAny (model prog w) A (forIn ifs true λc r => if r = true then do let ok <-isTrue c env (eval c env);pure (ForInStep.yield ok) else pure (ForInStep.yield r)) (λok Y =>
       if ok=true then wpAny (model prog w) A (eval elt env) (λx Z=>wpAny (model prog w) A (call (.builtin "list.append") [d,x]) (λ_ a=>∃m,m<n/\I m a) (notedBy (model prog w) A env λe s'=>R (.error e) s') Z) (notedBy (model prog w) A env λe s'=>R (.error e) s') Y
       else ∃m,m<n/\I m Y) (notedBy (model prog w) A env λe s'=>R (.error e) s') s₂) (notedBy (model prog w) A env λe s'=>R (.error e) s') V) (notedBy (model prog w) A env λe s'=>R (.error e) s') U) (notedBy (model prog w) A env λe s'=>R (.error e) s') s)(n:Nat)(h:I n s):codeAny (model prog w) A (.compLoop (.ListComp elt [⟨D,iter,ifs,0⟩] scope pos) 0 it d env) R s:=by
 refine codeAny_loop rfl I (λn s k=>?_) n h;refine(show wpAny _ A ((compTurn (.ListComp elt [⟨D,iter,ifs,0⟩] scope pos) 0 it d env).onRaise (λx=>do noteFrame x env;theTreesLotGoes x)) _ _ s from wpAny_noted ?_);rw[compTurn_list];refine az (vy (az (bI (turn n s k) λr U h₁=>?_)));cases r with
 |none=>exact dg h₁ |some v =>
   refine az (bI h₁ λ_ V f=>az (bI f λ_ s₂ g=>az (bI g λok Y b=>?_)));cases ok with
   |false=>exact dg ⟨rfl,b⟩ |true=>exact az (az (bI b λx Z i=>az (bI i λ_ a j=>dg (dg ⟨rfl,j⟩))))
def nj(X:Cx)(xs N':gs)(sc:Scope)(cl:List (Str×Addr))(C:Addr)(s₂:Shared)(H₂:Hp)(fp:gy):Cx :=
 { X with N:=xs++N',s₀:=s₂,H₀:=H₂,env:=compEnvC sc cl C X.env,outer:=X.stack,stack:=X.stack,ex:=fp,fn:=λ_=>false,pn:=[],xe:=λ_ _=>False }
def BK(Z:Nat)(wi:TI)(g:TG)(ix:g7)(tt:TT)(te:TE):TE:=λσ H Q=>wi σ H λJ H1=>∃W:Nat->Nat->Hp->ip->Prop,(∃m,W 0 m H1 [])/\∀i m H ys,W i m H ys ->
 (J.stop i H/\ys.length<=sizeLine/\∀D,H D=none->Q (.ref D) (a_ H D (.lst ys))) \/
 (J.go i H/\∀x H',J.yld i H x H'->∀σp:St,σp.length=Z->g x (σp++ix.map (λj=>σ.getD j none)) H' λI H1=>∃U:St,U.length=Z/\I=U++ix.map (λj=>σ.getD j none)/\tt I H1 λb H2 =>
   if b=true then te I H2 λv a=>ys.length<sizeLine/\∃Y,Y<m/\W (i+1) Y a (ys++[v]) else ∃Y,Y<m/\W (i+1) Y H2 ys)
variable{pins:ii}{σ:St}{s2:Shared}{fp:gy}{cl:List (Str×Addr)}{h₁:Heap}{m₁:Str->gx}{xs N':gs}{ix:g7}
theorem HZ{tk:Nat}(x:N'=ix.map λi=>X.N.getD i ("" : Str))(L:sc.kind=.function)(Z:∀y∈sc.names,y.2≠.cell)(a:∀y∈sc.names,y.2=.free->X.env.kindOf y.1=some .cell\/X.env.kindOf y.1=some .free)(A:∀y∈N',sc.names.lookup y=some .free)(h1:∀y c,cl.lookup y=↑c->X.env.cells.lookup y=↑c)(K:∀y∈sc.names,y.2=.free->∃c,cl.lookup y.1=↑c)(I:Inv X pins σ H2 s2)(t:∀b∈fp,dN X pins H2 b)(B:∀b∈fp,∃o,s2.heap.get? b=↑o)(Y:∀b o,s2.heap.get? b=↑o->h₁.get? b=↑o)(C:h₁.Ns (s2.heap.objs.size+1) m₁)(M:h₁.get? s2.heap.objs.size=↑(lobj [])) :
  Inv (nj X xs N' sc cl (s2.heap.objs.size+1) s2 H2 fp) [(s2.heap.objs.size,lobj [])] (xs.map (λ_=>none)++ix.map (λj=>σ.getD j none)) H2 { s2 with heap:=h₁,toks:=tk }:=by
 have E:∀b∈fp,b<s2.heap.objs.size:=λb V=>by obtain⟨o,e⟩:=B b V;exact bw e
 have f:∀b,s2.heap.objs.size<=b->b∉eT X.stack:=λb V z=>by
  rcases cf.mp (I.stkSub b z) with e |z
  ·exact absurd (bz I.lt (e ▸ V)) (gv _)
  ·exact I.nofs V z
 refine⟨⟨I.ok.mod,L,I.ok.glob,I.ok.blt,mv _,λy z c U D=>I.ok.inj y z c (h1 _ _ U) (h1 _ _ D),λy O=>?_,λy c z _=>(by cases z),I.ok.hd,I.ok.frames,.inl rfl,λb V=>⟨?_,λy c e=>?_⟩,I.bs,cy I.ok.bsz I.sz,λb o e V=>?_,λb V z=>?_,I.stack,I.stkFree⟩,
  rfl,I.bare,Un.kept Y,⟨m₁,C,λi y v U D W=>?_⟩,λy c e=>?_,I.hok.fresh (mv _),λy c e=>I.freeC y c (h1 y c e),λp F=>?_,I.hok.kept Y,?_⟩
 ·have G:(relabel sc X.env).names.lookup y=some .cell\/(relabel sc X.env).names.lookup y=some .free:=O
  have P:sc.names.lookup y=some .free:=by
   rcases G with q |q
   ·rcases vM q with q | ⟨q,_⟩
    ·exact absurd rfl (Z _ (fz q))
    ·exact q
   ·rcases vM q with q | ⟨_,q⟩
    ·exact q
    ·cases q
  exact K (y,.free) (fz P) rfl
 ·exact ce (h9 (E b V))
 ·exact(t b V).2.2.2.2.1 y c (h1 y c e)
 ·rcases(t b V).2.2.2.1 with z |z
  ·exact I.ok.noex b o e z
  ·exact absurd (bz (bw e) (cy I.ok.bsz z)) (gv _)
 ·have z:b∈eT X.stack:=z
  rcases cf.mp (I.stkSub b z) with e |z
  ·exact(t b V).2.1 e
  ·exact(t b V).2.2.1 z
 ·by_cases g:i<xs.length
  ·rw[bg (by simpa using g),bj] at D
   cases hq0:xs[i]? with
   |none=>rw[hq0] at D;cases D
   |some z0=>rw[hq0] at D;cases D
  ·have U:(xs++N')[i]?=↑y:=U
   rw[cw ∅] at U;rw[cw (by rw[ai];lia),ai] at D;generalize i-xs.length=j at U D;rw[x,bj] at U;rw[bj] at D;cases q:ix[j]? with
   |none=>rw[q] at U;cases U
   |some k =>
     rw[q] at U D;have U:X.N.getD k "" = y:=b9 U;have D:σ.getD k none=↑v:=b9 D;have h:σ[k]?=↑↑v:=by
      rw[aw] at D;cases q2:σ[k]? with
      |none=>rw[q2] at D;cases D
      |some z=>rw[q2] at D;rw[show z=↑v from D]
     have l:k<X.N.length:=by rw[<-I.len];exact(am.mp h).1
     have H:X.N[k]?=↑y:=by
      rw[aw,aq l] at U;rw[aq l];exact congrArg some U
     have J:y∈N':=by
      rw[x,<-U];exact dz.mpr ⟨k,bn q,rfl⟩
     have d:=A y J;have n:=a (y,.free) (fz d) rfl;have r:kK X.env.scope y:=by
      rcases n with z |z
      ·exact .inr (.inl z)
      ·exact .inr (.inr z)
     obtain⟨m,hn,Q⟩:=I.loc;obtain⟨u,R,S⟩:=Q k y v H h r;refine⟨u,R,.inr ⟨?_,?_⟩⟩
     ·exact lO d
     ·rcases S with⟨z,_⟩ | ⟨_,c,hc,hcv⟩
      ·rcases n with w |w <;> rw[show X.env.kindOf y=_ from w] at z <;> cases z
      ·obtain⟨T,s⟩:=K (y,.free) (fz d) rfl
       have:=h1 y T s;rw[hc] at this;cases this;exact⟨c,s,hcv.keeps Y⟩
 ·obtain⟨v,q⟩:=I.cell y c (h1 y c e)
  exact⟨v,q.keeps Y⟩
 ·have F:p∈[(s2.heap.objs.size,lobj [])]:=F
  rw[eh.mp F];exact⟨M,I.hok.fresh (b6 _),ce (f8 _),f _ (b6 _),λv z=>by cases z⟩
 ·simp[nj,x]
def vO{g:St}{Y:Shared}{h':Heap}(I:Inv X pins σ H2 s2)(k:∀b∈fp,dN X pins H2 b)(l:∀b∈fp,∃o,s2.heap.get? b=↑o)(J:Inv (nj X xs N' sc cl (s2.heap.objs.size+1) s2 H2 fp) [(s2.heap.objs.size,lobj vs)] g H' Y)(m:aO ys vs)(p:ys.length<=sizeLine)(d:Heap.SameBut (s2.heap.objs.size+1) Y.heap h') :
  Inv X pins σ (a_ H' s2.heap.objs.size (.lst ys)) { Y with heap:=h' }:=by
 have j:=J.pin (s2.heap.objs.size,lobj vs) (cg _ bi);have Z:H' s2.heap.objs.size=none:=j.2.1;have a:H' (s2.heap.objs.size+1)=none:=J.free;have U:Un (eT X.stack) fp H2 H' s2.heap Y.heap:=J.base;have f:∀b o,s2.heap.get? b=↑o->b≠s2.heap.objs.size/\b≠s2.heap.objs.size+1:=λb o e=>by
  have:=bw e;exact⟨ce this,ce (h9 this)⟩
 have f2:∀b,s2.heap.objs.size<=b->H2 b=none:=λb D=>I.hok.fresh D;have h:∀b o,H2 b=↑o->b≠s2.heap.objs.size:=λb o e z=>by rw[z,f2 _ (b6 _)] at e;cases e
 have r:Un (eT X.stack) fp H2 (a_ H' s2.heap.objs.size (.lst ys)) s2.heap h':=by
  refine⟨λb o e n D V=>(d.2 b (f b o e).2).trans (U.keep b o e n D V),λb o e n D V=>?_,λb o e n V=>?_,λb o e V=>?_,λb xs e=>?_,λb o u e=>?_,λb ps e=>?_⟩
  ·obtain⟨sl,q⟩:=U.slot b o e n D V
   exact⟨sl,(d.2 b (f b o e).2).trans q⟩
  ·rw[jh (f b o e).1];exact U.free b o e n V
  ·obtain⟨o',q⟩:=U.there b o e V
   exact⟨o',(d.2 b (f b o e).2).trans q⟩
  ·rw[jh (h b _ e)];exact U.tups b xs e
  ·rw[jh (h b _ e)];exact U.frzs b o u e
  ·rw[jh (h b _ e)];exact U.tbls b ps e
 have kk:∀b u,b≠s2.heap.objs.size+1->Y.heap.get? b=↑u->h'.get? b=↑u:=λb u D q=>(d.2 b D).trans q;have i:eJ X.prog X.w (a_ H' s2.heap.objs.size (.lst ys)) h':=λb u e=>by
  by_cases D:b=s2.heap.objs.size
  ·subst D
   rw[og] at e;cases e;exact⟨p,vs,vs.length,m,kk _ _ (ce (f8 _)) j.1⟩
  ·rw[jh D] at e
   have s:b≠s2.heap.objs.size+1:=λz=>by rw[z,a] at e;cases e
   refine(J.hok b u e).stay (λc v hc q=>kk c v ?_ q) (λc q=>?_) λc xs q=>?_
   ·rcases hc with rfl |hc
    ·exact s
    ·intro z;rw[z,a] at hc;cases hc
   ·rw[jh (λz=>by rw[z,Z] at q;cases q)];exact q
   ·rw[jh (λz=>by rw[z,Z] at q;cases q)];exact q
 refine I.call' (s':={ Y with heap:=h' }) (ch:=fp) J.os r i J.bare λb D=>?_;obtain⟨_,t,_,x,y,A⟩:=k b D;exact⟨x,t,y,A⟩
variable{J:It}{Q:VK}{W:Nat->Nat->Hp->ip->Prop}{Cm:Cx->Prop}{tg:Expr}{g:TG}{tt:TT}{te:TE}
theorem vP{it:Addr}{M:Nat->Heap->Prop}{m0:Nat}(hc:∀cl C s₂ H₂ fp pins σ,Inv X pins σ H₂ s₂->(∀b∈fp,dN X pins H₂ b)->Cm (nj X xs N' sc cl C s₂ H₂ fp))(a6:∀cl C s₂ H₂ fp,Cm (nj X xs N' sc cl C s₂ H₂ fp)->gE (nj X xs N' sc cl C s₂ H₂ fp) ifs tt)(a7:∀cl C s₂ H₂ fp,Cm (nj X xs N' sc cl C s₂ H₂ fp)->PE (nj X xs N' sc cl C s₂ H₂ fp) elt te)(hg:∀cl C s₂ H₂ fp,Cm (nj X xs N' sc cl C s₂ H₂ fp)->PG (nj X xs N' sc cl C s₂ H₂ fp) tg g)(hN:N'=ix.map λi=>X.N.getD i ("" : Str))(hk:sc.kind=.function)(O:∀y∈sc.names,y.2≠.cell)(a5:∀y∈sc.names,y.2=.local->sc.names.lookup y.1=some .local)(P:∀y∈sc.names,y.2=.free->X.env.kindOf y.1=some .cell\/X.env.kindOf y.1=some .free)(a8:∀y∈N',sc.names.lookup y=some .free)(h1:∀y c,cl.lookup y=↑c->X.env.cells.lookup y=↑c)(h3:∀y∈sc.names,y.2=.free->∃c,cl.lookup y.1=↑c)(h:Inv X pins σ H2 s2)(T:za Cm X.prog X.w X.K tg J fp it M)(ag:M 0 s2.heap)(f2:∀b∈fp,dN X pins H2 b)(w0:W 0 m0 H2 [])(turn:∀i m H ys,W i m H ys ->
   (J.stop i H/\ys.length<=sizeLine/\∀D,H D=none->Q (.ref D) (a_ H D (.lst ys))) \/
   (J.go i H/\∀x H',J.yld i H x H'->∀σp:St,σp.length=xs.length->g x (σp++ix.map (λj=>σ.getD j none)) H' λk H1=>∃V:St,V.length=xs.length/\k=V++ix.map (λj=>σ.getD j none)/\tt k H1 λb H2 =>
     if b=true then te k H2 λv H3=>ys.length<sizeLine/\∃l,l<m/\W (i+1) l H3 (ys++[v]) else ∃l,l<m/\W (i+1) l H2 ys))(al:∀b o,s2.heap.get? b=↑o->h₁.get? b=↑o)(s:h₁.Ns (s2.heap.objs.size+1) m₁)(an:h₁.get? s2.heap.objs.size=↑(lobj []))(hR:∀s5 E ys vs t,Inv (nj X xs N' sc cl (s2.heap.objs.size+1) s2 H2 fp) [(s2.heap.objs.size,lobj vs)] t E s5->aO ys vs->ys.length<=sizeLine->(∀D,E D=none->Q (.ref D) (a_ E D (.lst ys)))->R (.ok .next) s5) :
  codeAny (model X.prog X.w) X.A (.compStart (.ListComp elt [⟨tg,iter,ifs,0⟩] sc pos) 0 (.ref it) (.ref s2.heap.objs.size) (compEnvC sc cl (s2.heap.objs.size+1) X.env)) R { s2 with heap:=h₁,toks:=s2.toks+([]:List (Str×Value)).length }:=by
 have ap:∀b∈fp,∃o,s2.heap.get? b=↑o:=λb I=>by obtain⟨o,e,_⟩:=T.obj _ _ ag b I;exact⟨o,e⟩
 have S:∀b∈fp,b<s2.heap.objs.size:=λb I=>by obtain⟨o,e⟩:=ap b I;exact bw e
 have I3:=HZ (xs:=xs) (tk:=s2.toks+([]:List (Str×Value)).length) hN hk O P a8 h1 h3 h f2 ap al s an;have ar:M 0 h₁:=T.keep _ _ _ ag λb I o e=>al b o e;generalize Y:nj X xs N' sc cl (s2.heap.objs.size+1) s2 H2 fp=X' at I3;have eP:X'.prog=X.prog:=by rw[<-Y];rfl
 have eW:X'.w=X.w:=by rw[<-Y];rfl
 have eK:X'.K=X.K:=by rw[<-Y];rfl
 have eA:X'.A=X.A:=by rw[<-Y];rfl
 have F:X'.env=compEnvC sc cl (s2.heap.objs.size+1) X.env:=by rw[<-Y];rfl
 have eC:Cm X':=by rw[<-Y];exact hc _ _ _ _ _ _ _ h f2
 have a0:X'.pn=[]:=by rw[<-Y];rfl
 have aa:X'.xe=λ_ _=>False:=by rw[<-Y];rfl
 have a1:X'.fs=eT X.stack:=by rw[<-Y];rfl
 have a9:X'.ex=fp:=by rw[<-Y];rfl
 have eS:X'.s₀=s2:=by rw[<-Y];rfl
 have ba:∀b∈fp,b∉eT X.stack:=λb I z=>by
  rcases cf.mp (h.stkSub b z) with e |z
  ·exact(f2 b I).2.1 e
  ·exact(f2 b I).2.2.1 z
 have a2:s2.heap.objs.size∉eT X.stack:=λz=>by
  rcases cf.mp (h.stkSub _ z) with e |z
  ·exact absurd (e ▸ h.lt) (gv _)
  ·exact h.nofs (b6 _) z
 have Z:∀ {H':Hp} {vs:gu},(∀b∈fp,H' b=none)->∀b∈fp,dN X' [(s2.heap.objs.size,lobj vs)] H' b:=λ{H' vs} hn b I=>by
  refine⟨hn b I,?_,?_,.inl (by rw[a9];exact I),λy c e=>?_,λp B=>?_⟩
  ·rw[F];exact ce (h9 (S b I))
  ·rw[a1];exact ba b I
  ·rw[F] at e;exact(f2 b I).2.2.2.2.1 y c (h1 y c e)
  ·rw[a0] at B
   rw[eh.mp (show p∈[(s2.heap.objs.size,lobj vs)] from B)];exact kj (S b I)
 have loop:∀U:Shared,U={ s2 with heap:=h₁,toks:=s2.toks+([]:List (Str×Value)).length } ->
   codeAny (model X.prog X.w) X.A (.compLoop (.ListComp elt [⟨tg,iter,ifs,0⟩] sc pos) 0 (.ref it) (.ref s2.heap.objs.size) (compEnvC sc cl (s2.heap.objs.size+1) X.env))
    (R) U:=by
  rintro U rfl;refine HY (λn s'=>∃i σp H' ys vs,σp.length=xs.length/\Inv X' [(s2.heap.objs.size,lobj vs)] (σp++ix.map (λj=>σ.getD j none)) H' s'/\aO ys vs/\M i s'.heap/\(∀b∈fp,H' b=none)/\W i n H' ys) ?_ m0
   ⟨0,xs.map (λ_=>none),H2,[],[],by simp,I3,.nil,ar,λb I=>(f2 b I).1,w0⟩
  rintro n s4 ⟨i,σp,E,ys,vs,hσp,I4,hv4,st4,fr4,w4⟩;rcases turn i n E ys w4 with⟨a3,hl,qn⟩ | ⟨go,step⟩
  ·have D:=T.done X' eP eW eK eC i _ s4 _ E (notedBy (model X.prog X.w) X.A (compEnvC sc cl (s2.heap.objs.size+1) X.env) λe s'=>R (.error e) s') I4 (Z fr4) st4 a3
   rw[eA] at D;refine bI D λr s5 a=>?_;obtain⟨hr,I5⟩:=a;subst hr;exact hR s5 E ys vs _ (Y ▸ I5) hv4 hl qn
  ·have D:=T.item X' eP eW eK eC i _ s4 _ E (notedBy (model X.prog X.w) X.A (compEnvC sc cl (s2.heap.objs.size+1) X.env) λe s'=>R (.error e) s') I4 (Z fr4) st4 go
   rw[eA] at D;refine bI D λr s5 a=>?_;obtain⟨u,hr,h5⟩:=a;subst hr;have bb:wpAny (model X.prog X.w) X.A (letOwnedTupleGo tg (.ref it) u) (λ_ ab=>wpAny (model X.prog X.w) X.A (assign tg (compEnvC sc cl (s2.heap.objs.size+1) X.env) u) (λ_ s₂ =>
     wpAny (model X.prog X.w) X.A (forIn ifs true λc r=>if r=true then do let ok <-isTrue c (compEnvC sc cl (s2.heap.objs.size+1) X.env) (eval c (compEnvC sc cl (s2.heap.objs.size+1) X.env));pure (ForInStep.yield ok) else pure (ForInStep.yield r)) (λok U =>
      if ok=true then wpAny (model X.prog X.w) X.A (eval elt (compEnvC sc cl (s2.heap.objs.size+1) X.env)) (λx a4 =>
       wpAny (model X.prog X.w) X.A (call (.builtin "list.append") [.ref s2.heap.objs.size,x]) (λ_ G=>∃m,m<n/\∃i σp H' ys vs,σp.length=xs.length/\Inv X' [(s2.heap.objs.size,lobj vs)] (σp++ix.map (λj=>σ.getD j none)) H' G/\aO ys vs/\M i G.heap/\(∀b∈fp,H' b=none)/\W i m H' ys)
        (notedBy (model X.prog X.w) X.A (compEnvC sc cl (s2.heap.objs.size+1) X.env) λe s'=>R (.error e) s') a4)
       (notedBy (model X.prog X.w) X.A (compEnvC sc cl (s2.heap.objs.size+1) X.env) λe s'=>R (.error e) s') U
      else ∃m,m<n/\∃i σp H' ys vs,σp.length=xs.length/\Inv X' [(s2.heap.objs.size,lobj vs)] (σp++ix.map (λj=>σ.getD j none)) H' U/\aO ys vs/\M i U.heap/\(∀b∈fp,H' b=none)/\W i m H' ys)
      (notedBy (model X.prog X.w) X.A (compEnvC sc cl (s2.heap.objs.size+1) X.env) λe s'=>R (.error e) s') s₂)
     (notedBy (model X.prog X.w) X.A (compEnvC sc cl (s2.heap.objs.size+1) X.env) λe s'=>R (.error e) s') ab) (notedBy (model X.prog X.w) X.A (compEnvC sc cl (s2.heap.objs.size+1) X.env) λe s'=>R (.error e) s') s5:=by
    refine bI h5 λ_ s6 a=>?_;obtain⟨z,H6,I6,r6,y6,ac,bd⟩:=a;have be:=I6.pinned (Z bd) (T.obj _ _ ac);have q6:=step z H6 y6 σp hσp;have g6:=(Y ▸ hg cl (s2.heap.objs.size+1) s2 H2 fp (hc _ _ _ _ _ _ _ h f2):PG X' tg g) _ s6 _ H6 z u _ be r6 q6;rw[eP,eW,eA,F] at g6;refine iz g6 (λ_ s7 a=>?_) (λe s' z=>by rw[aa] at z;exact z.elim);obtain⟨k,H7,I7,V,L,bk,q7⟩:=a;subst bk;have t7:=(Y ▸ a6 cl (s2.heap.objs.size+1) s2 H2 fp (hc _ _ _ _ _ _ _ h f2):gE X' ifs tt) _ s7 _ H7 _ I7 q7;rw[eP,eW,eA,F] at t7;refine iz t7 (λb s8 a=>?_) (λe s' z=>by rw[aa] at z;exact z.elim);obtain⟨H8,I8,q8⟩:=a;have f:∀ {s':Shared} {H':Hp} {t:St},Inv X' ([(s2.heap.objs.size,lobj vs)]++nE fp s6.heap) t H' s'->M (i+1) s'.heap/\∀b∈fp,H' b=none:=λ{s' H' t} J'=>by
     refine⟨T.keep _ _ _ ac λb I o e=>(J'.pin (b,o) (cg _ (cg _ (qG I e)))).1,λb I=>?_⟩;obtain⟨o,e,d⟩:=T.obj _ _ ac b I;exact(J'.pin (b,o) (cg _ (cg _ (qG I e)))).2.1
    cases b with
    |false =>
      rw[cb cz] at q8 ⊢;obtain⟨l,hm,w8⟩:=q8;obtain⟨k1,k2⟩:=f I8;exact⟨l,hm,i+1,V,H8,ys,vs,L,I8.unpinned,hv4,k1,k2,w8⟩
    |true =>
      rw[ax rfl] at q8 ⊢;have t8:=(Y ▸ a7 cl (s2.heap.objs.size+1) s2 H2 fp (hc _ _ _ _ _ _ _ h f2):PE X' elt te) _ s8 _ H8 _ I8 q8;rw[eP,eW,eA,F] at t8;refine iz t8 (λv s9 a=>?_) (λe s' z=>by rw[aa] at z;exact z.elim);obtain⟨y,H9,I9,r9,br,l,hm,w9⟩:=a;have pD:=I9.pin (s2.heap.objs.size,lobj vs) (cg _ (d8 _ bi));obtain⟨k1,k2⟩:=f I9;have bs:=hv4.length;refine append_at (D:=s2.heap.objs.size) (its:=vs.toArray) (n:=vs.length) pD.1 (λh' sb hD=>?_) (by rw[b8];lia);have bl:Inv X' [] (V++ix.map (λj=>σ.getD j none)) H9 s9:=I9.pins_of λp B=>nomatch B;have cne:∀y c,X'.env.cells.lookup y=↑c->c≠s2.heap.objs.size:=λy c e=>by
       rw[F] at e;obtain⟨v',q⟩:=h.cell y c (h1 y c e);exact ce q.lt
      have bm:Inv X' [] (V++ix.map (λj=>σ.getD j none)) H9 { s9 with heap:=h' }:=bl.turned (t':=s9.toks) (it:=s2.heap.objs.size) (λb o I e=>(sb.2 b I).trans e) pD.2.1 (by rw[F];exact ce (f8 _)) (.inr (by rw[eS];exact b6 _)) cne (λp B=>by rw[a0] at B;exact nomatch B);have bp:Inv X' [(s2.heap.objs.size,lobj (vs++[v]))] (V++ix.map (λj=>σ.getD j none)) H9 { s9 with heap:=h' }:=bm.pins_of λp B=>by
       rw[eh.mp B];exact⟨hD.trans (congrArg some (HX vs v)),pD.2.1,by rw[F];exact ce (f8 _),by rw[a1];exact a2,λv' z'=>by cases z'⟩
      exact⟨l,hm,i+1,V,H9,ys++[y],vs++[v],L,bp,hv4.snoc r9,T.keep _ _ _ k1 (λb I o e=>(sb.2 b (ce (S b I))).trans e),k2,w9⟩
   exact bb
 exact codeAny_compStart_list (loop _ rfl) (T.self X.A 0 _ _ _ ar (loop _ rfl))
def BM(turn:∀i m H ys,W i m H ys ->
   (J.stop i H/\ys.length<=sizeLine/\∀D,H D=none->Q (.ref D) (a_ H D (.lst ys))) \/
   (J.go i H/\∀x H',J.yld i H x H'->tt (↑x::ix.map (λj=>σ.getD j none)) H' λb H2 =>
     if b=true then te (↑x::ix.map (λj=>σ.getD j none)) H2 λv Y=>ys.length<sizeLine/\∃I,I<m/\W (i+1) I Y (ys++[v]) else ∃I,I<m/\W (i+1) I H2 ys)) :
  ∀i m H ys,W i m H ys ->
   (J.stop i H/\ys.length<=sizeLine/\∀D,H D=none->Q (.ref D) (a_ H D (.lst ys))) \/
   (J.go i H/\∀v H',J.yld i H v H'->∀σp:St,σp.length=[x].length->p9 0 v (σp++ix.map (λj=>σ.getD j none)) H' λU H1=>∃V:St,V.length=[x].length/\U=V++ix.map (λj=>σ.getD j none)/\tt U H1 λb H2 =>
     if b=true then te U H2 λv Y=>ys.length<sizeLine/\∃I,I<m/\W (i+1) I Y (ys++[v]) else ∃I,I<m/\W (i+1) I H2 ys):=λi m H ys w=>(turn i m H ys w).imp id λq=>⟨q.1,λv H' y σp Z=>by
 obtain⟨a,rfl⟩:=List.length_eq_one_iff.mp Z;exact⟨[↑v],rfl,rfl,q.2 v H' y⟩⟩
variable{C:Addr}{s₂:Shared}{H₂:Hp}{px:Pos}
def BN(D:(x::N').Nodup)(I:sc.names.lookup x=some .local):PG (nj X [x] N' sc cl C s₂ H₂ fp) (.Name x px) (p9 0) :=
 uR (i:=0) D rfl (.inl (i9 I)) (.inr (i9 I))
variable{h:Heap}
def Heap.SameBut.rf(e:∃o,h.get? a=↑o):Heap.SameBut a h h:=by
 first |exact⟨rfl,λ_ _=>rfl⟩ |exact⟨e,λ_ _=>rfl⟩
structure vQ (X:Cx) (x:Str) (N':gs) (ix:g7) (sc:Scope):Prop where
 nm:N'=ix.map λi=>X.N.getD i ("" : Str)
 nd:(x::N').Nodup
 kind:sc.kind=.function
 hx:sc.names.lookup x=some .local
 cell:∀y∈sc.names,y.2≠.cell
 names:∀y∈sc.names,y.2=.local->sc.names.lookup y.1=some .local
 free:∀y∈sc.names,y.2=.free->X.env.kindOf y.1=some .cell\/X.env.kindOf y.1=some .free
 fv:∀y∈N',sc.names.lookup y=some .free
variable{wi:TI}
def vR(c:vQ X x N' ix sc)(r:∀cl C s₂ H₂ fp pins σ,Inv X pins σ H₂ s₂->(∀b∈fp,dN X pins H₂ b)->Cm (kz X x N' sc cl C s₂ H₂ fp))(hi:jA Cm X (.Name x px) iter wi)(a:∀cl C s₂ H₂ fp,Cm (kz X x N' sc cl C s₂ H₂ fp)->gE (kz X x N' sc cl C s₂ H₂ fp) ifs tt)(d:∀cl C s₂ H₂ fp,Cm (kz X x N' sc cl C s₂ H₂ fp)->PE (kz X x N' sc cl C s₂ H₂ fp) elt te)(t:∀v,foldedSetIterable iter X.env v=pure v:=by intro _;rfl) :
  PE X (.ListComp elt [⟨.Name x px,iter,ifs,0⟩] sc pos) (yd wi ix tt te):=by
 intro pins s σ H Q I h;obtain⟨cl,f,h1,u⟩:=vL (sc:=sc) (env:=X.env) (λy i w=>I.ok.has y.1 (c.free y i w));rw[eval_ListComp];refine ph (use:=none) rfl t f c.kind c.names (bI (hi pins s σ H _ I h) λv N z=>bI z λA s2 h2=>?_);obtain⟨it,fp,O,J,H2,rfl,q,T,V,f2,W,⟨P,B⟩,turn⟩:=h2;refine li (tw c.cell (by intro y i;simp at i) (λh₁ U D=>?_) c.kind);dsimp only at U D ⊢;have Y:(s2.heap.push { cls:=.type "list",dict:=none,data:=.seq ([]:gu).toArray }).objs.size=s2.heap.objs.size+1:=jk ..;rw[Y] at U D ⊢;have j:∀b o,s2.heap.get? b=↑o->h₁.get? b=↑o:=λb o e=>D.extBut b o (ce (h9 (bw e))) (av _ (av _ e));have Z:h₁.get? s2.heap.objs.size=↑(lobj []):=D.extBut _ _ (ce (f8 _)) (av _ (cj _ rfl));have k:∀b∈fp,∃o,s2.heap.get? b=↑o:=λb E=>by obtain⟨o,e,_⟩:=T.obj _ _ V b E;exact⟨o,e⟩
 refine vP (xs:=[x]) (g:=p9 0) r a d (λ_ _ _ _ _ _=>BN c.nd c.hx) c.nm c.kind c.cell c.names c.free c.fv h1 u q T V f2 B (BM turn) j U Z λR S ys vs F l m G K=>?_;obtain⟨L,n,_⟩:=l.loc;refine⟨L,n,λh' M=>?_⟩;have p:=(l.pin (s2.heap.objs.size,lobj vs) (cg _ bi)).2.1;exact⟨.ref s2.heap.objs.size,_,vO (xs:=[x]) q f2 k l m G M,rfl,K _ p⟩
variable{i:Nat}
def nM{py spos:Pos}(c:vQ X x N' ix sc)(hc:∀cl C s₂ H₂ fp pins σ,Inv X pins σ H₂ s₂->(∀b∈fp,dN X pins H₂ b)->Cm (kz X x N' sc cl C s₂ H₂ fp))(q:X.N.Nodup)(r:X.N[i]?=↑y)(t:Loc X.env.scope y)(hi:jA Cm X (.Name x px) iter wi)(u:∀cl C s₂ H₂ fp,Cm (kz X x N' sc cl C s₂ H₂ fp)->gE (kz X x N' sc cl C s₂ H₂ fp) ifs tt)(w:∀cl C s₂ H₂ fp,Cm (kz X x N' sc cl C s₂ H₂ fp)->PE (kz X x N' sc cl C s₂ H₂ fp) elt te)(B:swapsWith (.ListComp elt [⟨.Name x px,iter,ifs,0⟩] sc pos) ↑(.Name y py) spos.line X.env=pure true)(E:X.fn y=true\/X.env.scope.names.lookup y=some .local:=by first |exact .inl rfl |exact .inr rfl |assumption)(hs:∀v,foldedSetIterable iter X.env v=pure v:=by intro _;rfl) :
  PS X (.Assign [.Name y py] (.ListComp elt [⟨.Name x px,iter,ifs,0⟩] sc pos) spos) (eX (yd wi ix tt te) (p9 i)):=by
 intro pins s σ H Dn I h;have h:yd wi ix tt te σ H λv H1=>Dn.nx (σ.set i ↑v) H1:=h;obtain⟨cl,F,h1,h3⟩:=vL (sc:=sc) (env:=X.env) (λy G E=>I.ok.has y.1 (c.free y G E));rw[exec_Assign_Name_used _ _ _ _ B];refine az (vy (az ?_));show wpAny _ X.A (do let _ <-comprehension (.ListComp elt [⟨.Name x px,iter,ifs,0⟩] sc pos) sc X.env _ (newList []) false (eval iter X.env) ↑(assign (.Name y py) X.env)) _ _ s;refine az (iz (ph (use:=↑(assign (.Name y py) X.env)) (Q:=λ_ s'=>SP X pins Dn .next s') rfl hs F c.kind c.names
  (bI (hi pins s σ H _ I h) λv s1 g1=>bI g1 λaa s2 h2=>?_)) (λ_ s' hq=>dg (dg hq)) λ_ _ e=>e)
 obtain⟨it,fp,tn,J,H2,rfl,Z,T,d,f2,W,⟨m0,w0⟩,turn⟩:=h2;refine li (tw c.cell (by intro y G;simp at G) (λh₁ U D=>?_) c.kind);dsimp only at U D ⊢;have f:(s2.heap.push { cls:=.type "list",dict:=none,data:=.seq ([]:gu).toArray }).objs.size=s2.heap.objs.size+1:=jk ..;rw[f] at U D ⊢;have K:∀b o,s2.heap.get? b=↑o->h₁.get? b=↑o:=λb o e=>D.extBut b o (ce (h9 (bw e))) (av _ (av _ e));have j:h₁.get? s2.heap.objs.size=↑(lobj []):=D.extBut _ _ (ce (f8 _)) (av _ (cj _ rfl));have L:∀b∈fp,∃o,s2.heap.get? b=↑o:=λb M=>by obtain⟨o,e,_⟩:=T.obj _ _ d b M;exact⟨o,e⟩
 refine vP (xs:=[x]) (g:=p9 0) (Q:=λv H1=>Dn.nx (σ.set i ↑v) H1) hc u w (λ_ _ _ _ _ _=>BN c.nd c.hx) c.nm c.kind c.cell c.names c.free c.fv h1 h3 Z T d f2 w0 (BM (Q:=λv H1=>Dn.nx (σ.set i ↑v) H1) turn) K U j λk H4 ys vs ab l O hl qn=>?_;obtain⟨m5,V,_⟩:=l.loc;have V:k.heap.Ns (s2.heap.objs.size+1) m5:=V;have P:=(l.pin (s2.heap.objs.size,lobj vs) (cg _ bi)).2.1;have oC:∃o,k.heap.get? (s2.heap.objs.size+1)=↑o:=let ⟨o,_,_,e,_⟩:=V;⟨o,e⟩;have I6:Inv X pins σ (a_ H4 s2.heap.objs.size (.lst ys)) { k with heap:=k.heap }:=vO (xs:=[x]) Z f2 L l O hl (Heap.SameBut.rf oC);show wpAny _ X.A (assign (.Name y py) X.env (.ref s2.heap.objs.size)) _ _ k;have HC:a_ H4 s2.heap.objs.size (.lst ys) (s2.heap.objs.size+1)=none:=by rw[jh (kj (f8 _))];exact l.free
 have Y:∀a o,s2.heap.get? a=↑o->s2.heap.objs.size+1≠a:=λa o e=>kj (h9 (bw e));have oL:∃o,s2.heap.get? X.env.locals=↑o:=let ⟨m,hn,_⟩:=Z.loc;let ⟨o,_,_,e,_⟩:=hn;⟨o,e⟩;have cL:s2.heap.objs.size+1≠X.env.locals:=let ⟨o,e⟩:=oL;Y _ o e;have cC:∀z n,X.env.cells.lookup z=↑n->n≠s2.heap.objs.size+1:=λz n e=>by
  obtain⟨v',o,e',_⟩:=Z.cell z n e;exact Ne.symm (Y _ o e')
 refine wpAny_assign_Name (uH (v:=.ref s2.heap.objs.size) I6 q r t rfl (λs7 I7 zq=>?_) E);obtain⟨a,sb,ha⟩:=zq;have R:s2.heap.objs.size+1≠a:=by
  rcases ha with rfl |ha
  ·exact cL
  ·exact Ne.symm (cC _ _ ha)
 refine⟨m5,V.sameBut sb R,λh' S=>?_⟩;refine⟨_,_,I7.turned (t':=s7.toks) (it:=s2.heap.objs.size+1) (λb o M e=>(S.2 b M).trans e) HC cL (.inr ?_) cC (λp hp=>?_),qn _ P⟩
 ·exact t3 Z.sz
 ·exact Ne.symm (Y _ _ (Z.pin p hp).1)
structure BO (X:Cx) (xs N':gs) (ix:g7) (sc:Scope):Prop where
 nm:N'=ix.map λi=>X.N.getD i ("" : Str)
 nd:(xs++N').Nodup
 kind:sc.kind=.function
 hx:∀y∈xs,sc.names.lookup y=some .local
 cell:∀y∈sc.names,y.2≠.cell
 names:∀y∈sc.names,y.2=.local->sc.names.lookup y.1=some .local
 free:∀y∈sc.names,y.2=.free->X.env.kindOf y.1=some .cell\/X.env.kindOf y.1=some .free
 fv:∀y∈N',sc.names.lookup y=some .free
def H_(c:BO X xs N' ix sc)(r:X.calm=true)(hi:PI X tg iter wi)(a:∀cl C s₂ H₂ fp,gE (nj X xs N' sc cl C s₂ H₂ fp) ifs tt)(d:∀cl C s₂ H₂ fp,PE (nj X xs N' sc cl C s₂ H₂ fp) elt te)(t:∀cl C s₂ H₂ fp,PG (nj X xs N' sc cl C s₂ H₂ fp) tg g)(u:∀v,foldedSetIterable iter X.env v=pure v:=by intro _;rfl) :
  PE X (.ListComp elt [⟨tg,iter,ifs,0⟩] sc pos) (BK xs.length wi g ix tt te):=by
 intro pins s σ H Q I h;obtain⟨cl,f,h1,w⟩:=vL (sc:=sc) (env:=X.env) (λy i x=>I.ok.has y.1 (c.free y i x));rw[eval_ListComp];refine ph (use:=none) rfl u f c.kind c.names (bI (hi pins s σ H _ I h) λv N z=>bI z λA s2 h2=>?_);obtain⟨it,fp,O,J,H2,rfl,q,T,V,f2,W,⟨P,B⟩,turn⟩:=h2;refine li (tw c.cell (by intro y i;simp at i) (λh₁ U D=>?_) c.kind);dsimp only at U D ⊢;have Y:(s2.heap.push { cls:=.type "list",dict:=none,data:=.seq ([]:gu).toArray }).objs.size=s2.heap.objs.size+1:=jk ..;rw[Y] at U D ⊢;have j:∀b o,s2.heap.get? b=↑o->h₁.get? b=↑o:=λb o e=>D.extBut b o (ce (h9 (bw e))) (av _ (av _ e));have Z:h₁.get? s2.heap.objs.size=↑(lobj []):=D.extBut _ _ (ce (f8 _)) (av _ (cj _ rfl));have k:∀b∈fp,∃o,s2.heap.get? b=↑o:=λb E=>by obtain⟨o,e,_⟩:=T.obj _ _ V b E;exact⟨o,e⟩
 refine vP (Cm:=λX=>X.calm=true) (λ_ _ _ _ _ _ _ _ _=>r) (λ_ _ _ _ _ _=>a _ _ _ _ _) (λ_ _ _ _ _ _=>d _ _ _ _ _) (λ_ _ _ _ _ _=>t _ _ _ _ _) c.nm c.kind c.cell c.names c.free c.fv h1 w q T V f2 B turn j U Z λR S ys vs F l m G K=>?_;obtain⟨L,n,_⟩:=l.loc;refine⟨L,n,λh' M=>?_⟩;have p:=(l.pin (s2.heap.objs.size,lobj vs) (cg _ bi)).2.1;exact⟨.ref s2.heap.objs.size,_,vO q f2 k l m G M,rfl,K _ p⟩
inductive D where
 |non |bl (b:Bool) |int (i:Int) |str (s:Str) |tup (ds:List D) |lst (ds:List D)
 |dct (ks:g8) (ds:List D)
 |exc (a:Addr)
abbrev i0:=List D
abbrev jj:=Option D
inductive Im where
 |t (vs:ip) |d (kvs:List (dI×V))
@[reducible] noncomputable def Im.out:Im->HO | .t vs=>.tup vs | .d kvs=>.dK kvs
def nN(ks:g8)(vs:ip):List (dI×V):=ks.zipWith (λk v=>(Sum.inl k,v)) vs
def KL(K:ic)(a:Addr)(xs:ip):Prop :=
 ∃(o:Obj) (its:ik) (n:Nat),K.lookup a=↑o/\o.cls=.type "list"/\o.dict=none/\o.data=.seq its n/\its.size<=sizeLine/\aO xs its.toList
mutual
inductive bB (K:ic) (H:Hp) (O:Addr->Prop):D->V->Prop
 |non:bB K H O .non .non
 |bl (b:Bool):bB K H O (.bl b) (.bl b)
 |int (i:Int):bB K H O ↥i ↥i
 |str (s:Str):bB K H O (.str s) (.str s)
 |tup {a:Addr} {vs:ip} {ds:i0}:H a=↑(.tup vs)->aI K H O ds vs->bB K H O (.tup ds) (.ref a)
 |lst {a:Addr} {vs:ip} {ds:i0}:O a->Rd H a (.lst vs)->aI K H O ds vs->bB K H O (.lst ds) (.ref a)
 |klst {a:Addr} {vs:ip} {ds:i0}:KL K a vs->aI K H O ds vs->bB K H O (.lst ds) (.ref a)
 |dct {a:Addr} {ks:g8} {vs:ip} {ds:i0}:H a=↑(.dK (nN ks vs))->aI K H O ds vs->bB K H O (.dct ks ds) (.ref a)
 |exc (a:Addr):bB K H O (.exc a) (.ref a)
inductive aI (K:ic) (H:Hp) (O:Addr->Prop):i0->ip->Prop
 |nil:aI K H O [] []
 |cons {d:D} {v:V} {ds:i0} {vs:ip}:bB K H O d v->aI K H O ds vs->aI K H O (d::ds) (v::vs)
end
variable{vs:ip}{ds:i0}{O:Addr->Prop}
def aI.ind{P:i0->ip->Prop}(n:P [] [])(c:∀ {d v ds vs},bB K H O d v->aI K H O ds vs->P ds vs->P (d::ds) (v::vs)):aI K H O ds vs->P ds vs :=
 aI.rec (motive_1:=λ_ _ _=>True) (motive_2:=λds vs _=>P ds vs) ⟨⟩ (λ_=>⟨⟩) (λ_=>⟨⟩) (λ_=>⟨⟩) (λ_ _ _=>⟨⟩) (λ_ _ _ _=>⟨⟩) (λ_ _ _=>⟨⟩) (λ_ _ _=>⟨⟩) (λ_=>⟨⟩) n λr t _=>c r t
variable{v:V}{O':Addr->Prop}
def bB.mono(D:∀a (u:Im),H a=↑u.out->H' a=↑u.out)(I:∀a vs,O a->Rd H a (.lst vs)->O' a/\Rd H' a (.lst vs)):bB K H O d v->bB K H' O' d v :=
 bB.rec (motive_1:=λd v _=>bB K H' O' d v) (motive_2:=λds vs _=>aI K H' O' ds vs) .non .bl .int .str (λh _=>.tup (D _ (.t _) h)) (λo h _=>.lst (I _ _ o h).1 (I _ _ o h).2) (λh _=>.klst h) (λh _=>.dct (D _ (.d _) h)) .exc .nil λ_ _=>.cons
def aI.mono(I:∀a (u:Im),H a=↑u.out->H' a=↑u.out)(U:∀a vs,O a->Rd H a (.lst vs)->O' a/\Rd H' a (.lst vs)){ds:i0}{vs:ip}:aI K H O ds vs->aI K H' O' ds vs:=aI.ind .nil λr _=>.cons (r.mono I U)
def aI.length{ds:i0}{vs:ip}:aI K H O ds vs->ds.length=vs.length:=aI.ind (P:=λds vs=>ds.length=vs.length) rfl λ_ _=>congrArg Nat.succ
def aI.get(h:aI K H O ds vs):ds[i]?=↑d->∃v,vs[i]?=↑v/\bB K H O d v :=
 aI.ind (P:=λds vs=>∀ {i:Nat},ds[i]?=↑d->∃v,vs[i]?=↑v/\bB K H O d v) nofun (λr _ q i e=>match i with
  |0=>⟨_,rfl,b9 e ▸ r⟩ |i+1=>q (i:=i) e) h
variable{es:h6}
def aI.append{es:i0}{ws:ip}(h:aI K H O ds vs)(s:aI K H O es ws):aI K H O (ds++es) (vs++ws):=aI.ind (P:=λds vs=>aI K H O (ds++es) (vs++ws)) s (λr _=>.cons r) h
def aI.take{ds:i0}{vs:ip}(n:Nat)(h:aI K H O ds vs):aI K H O (ds.take n) (vs.take n) :=
 aI.ind (P:=λds vs=>∀n,aI K H O (ds.take n) (vs.take n)) (λn=>by cases n <;> exact .nil) (λr _ q n=>by cases n;exact .nil;exact .cons r (q _)) h n
def aI.drop{ds:i0}{vs:ip}(n:Nat)(h:aI K H O ds vs):aI K H O (ds.drop n) (vs.drop n) :=
 aI.ind (P:=λds vs=>∀n,aI K H O (ds.drop n) (vs.drop n)) (λn=>by cases n <;> exact .nil) (λr t q n=>by cases n;exact .cons r t;exact q _) h n
def aI.set{d:D}{v:V}(r:bB K H O d v){ds:i0}{vs:ip}(i:Nat)(h:aI K H O ds vs):aI K H O (ds.set i d) (vs.set i v) :=
 aI.ind (P:=λds vs=>∀i,aI K H O (ds.set i d) (vs.set i v)) (λ_=>.nil) (λp t q n=>by cases n;exact .cons r t;exact .cons p (q _)) h i
def aI.eraseIdx{ds:i0}{vs:ip}(i:Nat)(h:aI K H O ds vs):aI K H O (ds.eraseIdx i) (vs.eraseIdx i) :=
 aI.ind (P:=λds vs=>∀i,aI K H O (ds.eraseIdx i) (vs.eraseIdx i)) (λ_=>.nil) (λp t q n=>by cases n;exact t;exact .cons p (q _)) h i
def aI.dropLast(h:aI K H O ds vs):aI K H O ds.dropLast vs.dropLast:=by
 rw[pq,pq,h.length];exact h.take _
def bB.int_{i:Int}(h:bB K H O ↥i v):v=.int i:=by cases h;rfl
def bB.bl_{i:Bool}(h:bB K H O (.bl i) v):v=.bl i:=by cases h;rfl
def bB.str_{i:Str}(h:bB K H O (.str i) v):v=.str i:=by cases h;rfl
def bB.exc_(h:bB K H O (.exc a) v):v=.ref a:=by cases h;rfl
def bB.non_(h:bB K H O .non v):v=.non:=by cases h;rfl
def bB.tup_(h:bB K H O (.tup ds) v):∃a vs,v=.ref a/\H a=↑(.tup vs)/\aI K H O ds vs:=by cases h with |tup a b=>exact⟨_,_,rfl,a,b⟩
def fU(K:ic)(H:Hp)(O:Addr->Prop)(a:Addr)(vs:ip):Prop:=(O a/\Rd H a (.lst vs))\/KL K a vs
def fU.sq(h:fU K H O a vs):cY K H a vs:=h.elim (λz=>.inl z.2) .inr
def bB.lst_(h:bB K H O (.lst ds) v):∃a vs,v=.ref a/\fU K H O a vs/\aI K H O ds vs:=by
 cases h with
 |lst o a b=>exact⟨_,_,rfl,.inl ⟨o,a⟩,b⟩ |klst a b=>exact⟨_,_,rfl,.inr a,b⟩
inductive Mo where
 |l (vs:ip) |i (C dx:Addr) (fs:List (Str×V))
@[reducible] noncomputable def Mo.out:Mo->HO | .l vs=>.lst vs | .i C dx fs=>.ins C dx fs
inductive Pt where
 |d (d:D) |o (ds:i0)
abbrev js:=List Pt
inductive AK where
 |ls |ins (b:Bool) (c:Str) (fs:gs)
inductive Sl where
 |sh (d:D) |ow (ds:i0) |o2 (dss:List i0) |ag (k:AK) (r:Option Nat) (ps:js) |al (r j:Nat) |ro (k:AK) (ps:js)
abbrev j0:=Option Sl
structure Gd where
 g:Addr->Prop
 r:Nat->gy
instance:CoeFun Gd (λ_=>Addr->Prop):=⟨Gd.g⟩
abbrev gd(g:Addr->Prop):Gd:=⟨g,λ_=>[]⟩
abbrev aQ:=List j0
def Ow(G:Gd)(W:Addr->Prop):Addr->Prop:=λa=>G a/\¬W a
def vS(K:ic)(G:Gd)(W:Addr->Prop)(H:Hp)(dss:List i0)(ls:gy):Prop :=
 ls.length=dss.length/\∀(j:Nat) (ds:i0) (a:Addr),dss[j]?=↑ds->ls[j]?=↑a->W a/\∃vs,H a=↑(.lst vs)/\aI K H (Ow G W) ds vs
inductive bC (K:ic) (G:Gd) (W:Addr->Prop) (H:Hp):js->gy->ip->Prop
 |nil:bC K G W H [] [] []
 |d {d:D} {v:V} {ps:js} {as:gy} {us:ip}:bB K H (Ow G W) d v->bC K G W H ps as us->bC K G W H (.d d::ps) as (v::us)
 |o {ds:i0} {a:Addr} {vs:ip} {ps:js} {as:gy} {us:ip}:W a->H a=↑(.lst vs)->aI K H (Ow G W) ds vs->bC K G W H ps as us->bC K G W H (.o ds::ps) (a::as) (.ref a::us)
inductive bK (K:ic) (G:Gd) (W:Addr->Prop) (H:Hp):js->ip->Prop
 |nil:bK K G W H [] []
 |d {d:D} {v:V} {ps:js} {us:ip}:bB K H (Ow G W) d v->bK K G W H ps us->bK K G W H (.d d::ps) (v::us)
 |o {ds:i0} {a:Addr} {vs:ip} {ps:js} {us:ip}:¬W a->H a=↑(.lst vs)->aI K H (Ow G W) ds vs->bK K G W H ps us->bK K G W H (.o ds::ps) (.ref a::us)
def dP(K:ic)(H:Hp):AK->Addr->ip->Prop
 | .ls,p,us=>H p=↑(.lst us) | .ins _ c fs,p,us=>∃C dx,PySem.W.nsIn K mainGlobals c=↑↑(.ref C)/\H p=↑(.ins C dx (fs.zip us))/\fs.length=us.length
def jM:AK->gy->Addr->gy->Prop
 | .ins true _ _,l,p,_=>l=[p]
 |_,l,p,as=>l=p::as
inductive nO (K:ic) (G:Gd) (W:Addr->Prop) (H:Hp) (ds:i0) (v:V):Prop
 |mk (l:Addr) (vs:ip) (e:v=.ref l) (w:W l) (h:H l=↑(.lst vs)) (r:aI K H (Ow G W) ds vs):nO K G W H ds v
inductive nP (K:ic) (G:Gd) (W:Addr->Prop) (H:Hp) (dss:List i0) (v:V):Prop
 |mk (l:Addr) (ls:gy) (e:v=.ref l) (w:W l) (h:H l=↑(.lst (ls.map V.ref))) (n:(l::ls).Nodup) (r:vS K G W H dss ls):nP K G W H dss v
inductive nQ (K:ic) (G:Gd) (W:Addr->Prop) (H:Hp) (k:AK) (r:Option Nat) (ps:js) (v:V):Prop
 |mk (p:Addr) (as:gy) (us:ip) (e:v=.ref p) (w:W p) (n:(p::as).Nodup) (l:∀n,r=↑n->jM k (G.r n) p as) (h:dP K H k p us) (q:bC K G W H ps as us):nQ K G W H k r ps v
def dQ(K:ic)(G:Gd)(W:Addr->Prop)(H:Hp):Sl->V->Prop
 | .sh d,v=>bB K H (Ow G W) d v | .ow ds,v=>nO K G W H ds v | .o2 dss,v=>nP K G W H dss v | .ag k r ps,v=>nQ K G W H k r ps v | .al r j,v=>∃p as a,G.r r=p::as/\as[j]?=↑a/\v=.ref a | .ro k ps,v=>∃(p:Addr) (us:ip),v=.ref p/\¬W p/\dP K H k p us/\bK K G W H ps us
def qP:js->ip->Addr->Prop:=λps us a=>∃(j:Nat) (ds:i0),ps[j]?=↑(.o ds)/\us[j]?=↑(.ref a)
def vT(H:Hp):AK->Addr->ip->Prop
 | .ls,p,us=>H p=↑(.lst us) | .ins _ _ fs,p,us=>fs.length=us.length/\∃C dx,H p=↑(.ins C dx (fs.zip us))
def bS(H:Hp):Sl->V->Addr->Prop
 | .sh _,_,_=>False | .ow _,v,a=>v=.ref a | .o2 _,v,a=>v=.ref a\/∃(l:Addr) (ls:gy),v=.ref l/\H l=↑(.lst (ls.map V.ref))/\a∈ls
 | .ag k _ ps,v,a=>v=.ref a\/∃(p:Addr) (us:ip),v=.ref p/\vT H k p us/\qP ps us a | .al _ _,_,_=>False | .ro _ _,_,_=>False
structure Ok (K:ic) (G:Gd) (H0:Hp) (W:Addr->Prop) (env:aQ) (σ:St) (H:Hp):Prop where
 stay:bG H0 H
 good:∀a,H0 a=none->G a
 wl:∀l,W l->H0 l=none/\∃m:Mo,H l=↑m.out
 slot:∀(i:Nat) (s:Sl),env[i]?=↑↑s->∃v,σ[i]?=↑↑v/\dQ K G W H s v
 uniq:∀(i j:Nat) (s s':Sl) (v v':V) (a:Addr),env[i]?=↑↑s->env[j]?=↑↑s'->σ[i]?=↑↑v->σ[j]?=↑↑v'->bS H s v a->bS H s' v' a->i=j
 len:env.length=σ.length
variable{ls:gy}
def nR{D:gy}(h:ls.map V.ref=D.map V.ref):ls=D:=by
 induction ls generalizing D with
 |nil=>cases D with |nil=>rfl |cons b r=>cases h
 |cons a t ih=>cases D with |nil=>cases h |cons b r=>simp[List.cons.injEq,V.ref.injEq] at h;rw[h.1,ih h.2]
variable{W:Addr->Prop}{G:Gd}{ps:js}{as:gy}{us:ip}
def bC.own(h:bC K G W H ps as us)(ha:a∈as):W a/\∃vs,H a=↑(.lst vs):=by
 induction h with
 |nil=>cases ha
 |d _ _ ih=>exact ih ha |o hW hl _ _ ih =>
   rcases cf.mp ha with rfl |ha
   ·exact⟨hW,_,hl⟩
   ·exact ih ha
def bC.parts_iff(h:bC K G W H ps as us):qP ps us a↔a∈as:=by
 induction h with
 |nil=>exact⟨λ⟨j,ds,e,_⟩=>by simp at e,λz=>by cases z⟩
 |d _ _ ih =>
   rw[<-ih];constructor
   ·rintro⟨j,ds,I,D⟩
    cases j with
    |zero=>simp at I |succ j=>exact⟨j,ds,by simpa using I,by simpa using D⟩
   ·rintro⟨j,ds,I,D⟩
    exact⟨j+1,ds,by simpa using I,by simpa using D⟩
 |o _ _ _ _ ih =>
   rw[cf,<-ih];constructor
   ·rintro⟨j,ds,I,D⟩
    cases j with
    |zero=>simp at D;exact .inl D.symm |succ j=>exact .inr ⟨j,ds,by simpa using I,by simpa using D⟩
   ·rintro(rfl | ⟨j,ds,I,D⟩)
    ·exact⟨0,_,rfl,rfl⟩
    ·exact⟨j+1,ds,by simpa using I,by simpa using D⟩
variable{G':Gd}{W':Addr->Prop}
protected def bC.step(h:bC K G W H ps as us)(k:∀a vs,a∈as->H a=↑(.lst vs)->W' a/\H' a=↑(.lst vs))(r:∀d v,bB K H (Ow G W) d v->bB K H' (Ow G' W') d v)(D:∀ds vs,aI K H (Ow G W) ds vs->aI K H' (Ow G' W') ds vs):bC K G' W' H' ps as us:=by
 induction h with
 |nil=>exact .nil |d q _ ih=>exact .d (r _ _ q) (ih k) |o hW hl q _ ih =>
   obtain⟨I,U⟩:=k _ _ bi hl;exact .o I U (D _ _ q) (ih λa vs V=>k a vs (ay _ V))
protected def bK.step(h:bK K G W H ps us)(k:∀a vs,¬W a->H a=↑(.lst vs)->¬W' a/\H' a=↑(.lst vs))(r:∀d v,bB K H (Ow G W) d v->bB K H' (Ow G' W') d v)(D:∀ds vs,aI K H (Ow G W) ds vs->aI K H' (Ow G' W') ds vs):bK K G' W' H' ps us:=by
 induction h with
 |nil=>exact .nil |d q _ ih=>exact .d (r _ _ q) ih |o hW hl q _ ih=>obtain⟨I,U⟩:=k _ _ hW hl;exact .o I U (D _ _ q) ih
variable{j:Nat}
def bK.get(h:bK K G W H ps us)(e:ps[j]?=↑(.o ds)):∃a vs,us[j]?=↑(.ref a)/\¬W a/\H a=↑(.lst vs)/\aI K H (Ow G W) ds vs:=by
 induction h generalizing j with
 |nil=>simp at e |d _ _ ih =>
   cases j with
   |zero=>simp at e |succ j=>obtain⟨a,vs,h1,h2⟩:=ih (j:=j) (by simpa using e);exact⟨a,vs,by simpa using h1,h2⟩
 | @o _ a vs _ _ hW hl r _ ih =>
   cases j with
   |zero=>simp at e;subst e;exact⟨a,vs,rfl,hW,hl,r⟩ |succ j=>obtain⟨a,vs,h1,h2⟩:=ih (j:=j) (by simpa using e);exact⟨a,vs,by simpa using h1,h2⟩
def bK.getD(h:bK K G W H ps us)(e:ps[j]?=↑(.d d)):∃v,us[j]?=↑v/\bB K H (Ow G W) d v:=by
 induction h generalizing j with
 |nil=>simp at e |d q _ ih =>
   cases j with
   |zero=>simp at e;subst e;exact⟨_,rfl,q⟩ |succ j=>obtain⟨a,h1,h2⟩:=ih (j:=j) (by simpa using e);exact⟨a,by simpa using h1,h2⟩
 |o _ _ _ _ ih =>
   cases j with
   |zero=>simp at e |succ j=>obtain⟨a,h1,h2⟩:=ih (j:=j) (by simpa using e);exact⟨a,by simpa using h1,h2⟩
variable{k:AK}{p:Addr}
theorem zh{D:ip}(h:dP K H k p us)(h':vT H k p D):D=us:=by
 cases k with
 |ls=>have h:H p=_:=h;have h':H p=_:=h';rw[h] at h';cases h';rfl
 |ins b c fs =>
   obtain⟨C,dx,_,I,Y⟩:=h;obtain⟨Z,a,U,e⟩:=h';rw[I] at e;have e:fs.zip us=fs.zip D:=by injection e with e;injection e
   have:=congrArg (List.map Prod.snd) e;rw[ve ∅,ve ∅] at this;exact this.symm
protected def dP.o{K:ic}{H:Hp}{k:AK}{p:Addr}{us:ip}(h:dP K H k p us):vT H k p us:=by
 cases k with
 |ls=>exact h |ins b c fs=>obtain⟨C,dx,_,D,I⟩:=h;exact⟨I,C,dx,D⟩
def dP.mo(h:dP K H k p us):∃m:Mo,H p=↑m.out/\∀H',H' p=↑m.out->dP K H' k p us:=by
 cases k with
 |ls=>exact⟨.l us,h,λH' e=>e⟩ |ins b c fs=>obtain⟨C,dx,D,I,U⟩:=h;exact⟨.i C dx (fs.zip us),I,λH' e=>⟨C,dx,D,e,U⟩⟩
def dQ.owns(h:dQ K G W H s v)(o:bS H s v a):W a:=by
 cases s with
 |sh d=>exact o.elim |ow ds=>obtain⟨l,vs,e,D,_⟩:=h;rw[show v=.ref a from o] at e;cases e;exact D
 |o2 dss =>
   obtain⟨l,ls,e,D,Y,nd,hi⟩:=h;rcases o with o | ⟨l',ls',e',hl',ha⟩
   ·rw[o] at e;cases e;exact D
   ·rw[e] at e';cases e'
    rw[Y] at hl';have:=nR (by simpa using hl');subst this;obtain⟨j,U,Z⟩:=lr ha;have I:j<dss.length:=by rw[<-hi.1];exact U
    exact(hi.2 j dss[j] a (by simp[I]) (by simp[U,Z])).1
 |ag k r ps =>
   obtain⟨p,as,us,e,D,nd,c,b,V⟩:=h;rcases o with o | ⟨p',us',e',hk',ha⟩
   ·rw[o] at e;cases e;exact D
   ·rw[e] at e';cases e'
    rw[zh b hk'] at ha;exact(V.own (V.parts_iff.mp ha)).1
 |al _ _=>exact o.elim |ro _ _=>exact o.elim
def dQ.back(h:dQ K G W H s v)(k:∀l,v=.ref l->W l->∀m:Mo,H l=↑m.out->H' l=↑m.out)(o:bS H' s v a):bS H s v a:=by
 cases s with
 |sh d=>exact o.elim |ow ds=>exact o |o2 dss =>
   obtain⟨l,ls,e,D,I,nd,hi⟩:=h;rcases o with o | ⟨l',ls',e',hl',ha⟩
   ·exact .inl o
   ·rw[e] at e';cases e'
    rw[k l e D (.l _) I] at hl';have:=nR (by simpa using hl');subst this;exact .inr ⟨l,ls,e,I,ha⟩
 |ag q r ps =>
   obtain⟨p,as,us,e,D,nd,Y,U,Z⟩:=h;rcases o with o | ⟨p',us',e',hk',ha⟩
   ·exact .inl o
   ·rw[e] at e';cases e'
    obtain⟨m,V,m2⟩:=U.mo;rw[zh (m2 H' (k p e D m V)) hk'] at ha;exact .inr ⟨p,us,e,U.o,ha⟩
 |al _ _=>exact o.elim |ro _ _=>exact o.elim
structure Step (W:Addr->Prop) (H:Hp) (W':Addr->Prop) (H':Hp):Prop where
 keep:∀b o,H b=↑o->¬W b->H' b=↑o
 ws:∀l,W' l->W l\/H l=none
def Step.refl:Step W H W H:=⟨λ_ _ e _=>e,λ_ h=>.inl h⟩
variable{W1:Addr->Prop}
def Step.trans{D:Addr->Prop}(a:Step W H W1 H1)(b:Step W1 H1 D H2):Step W H D H2 where
 keep:=λc o e n=>b.keep c o (a.keep c o e n) λz=>(a.ws c z).elim n λq=>by rw[q] at e;cases e
 ws:=λl h=>by
  rcases b.ws l h with z |z
  ·exact a.ws l z
  ·by_cases n:W l
   ·exact .inl n
   ·cases e:H l with
    |none=>exact .inr rfl |some o=>rw[a.keep l o e n] at z;cases z
def Step.same(h:bG H H'):Step W H W H':=⟨λb o e _=>h b o e,λ_ h=>.inl h⟩
variable{env:aQ}{H0:Hp}
def Ok.wkeep(ok:Ok K G H0 W env σ H)(st:Step W H W' H'):∀b o,H b=↑o->(∀m:Mo,o≠m.out)->H' b=↑o:=λb o e n =>
 st.keep b o e λz=>by obtain⟨_,m,q⟩:=ok.wl b z;rw[e] at q;exact n m (b9 q)
def Rd.keep{u:HO}(h:Rd H a u)(k:∀o,H a=↑o->H' a=↑o):Rd H' a u:=by
 rcases h with h | ⟨o,h⟩
 ·exact .inl (k _ h)
 ·exact .inr ⟨o,k _ h⟩
def Ok.tstep(ok:Ok K G H0 W env σ H)(st:Step W H W' H'):∀a vs,H a=↑(.tup vs)->H' a=↑(.tup vs):=λ_ _ h=>ok.wkeep st _ _ h λm z=>by cases m <;> cases z
def Ok.istep(ok:Ok K G H0 W env σ H)(st:Step W H W' H'):∀a (u:Im),H a=↑u.out->H' a=↑u.out:=λ_ u h=>ok.wkeep st _ _ h λm z=>by cases u <;> cases m <;> cases z
def Ok.lstep(ok:Ok K G H0 W env σ H)(st:Step W H W' H'):∀a vs,Ow G W a->Rd H a (.lst vs)->Ow G W' a/\Rd H' a (.lst vs):=λa vs o h=>by
 refine⟨⟨o.1,λz=>?_⟩,h.keep λu e=>st.keep a u e o.2⟩;rcases st.ws a z with q |q
 ·exact o.2 q
 ·rcases h with h | ⟨_,h⟩ <;> rw[q] at h <;> cases h
def Ok.lsstep(ok:Ok K G H0 W env σ H)(st:Step W H W' H')(h:fU K H (Ow G W) a vs):fU K H' (Ow G W') a vs:=h.elim (λz=>.inl (ok.lstep st a vs z.1 z.2)) .inr
def Ok.rep(ok:Ok K G H0 W env σ H)(st:Step W H W' H')(r:bB K H (Ow G W) d v):bB K H' (Ow G W') d v:=r.mono (ok.istep st) (ok.lstep st)
def Ok.reps(ok:Ok K G H0 W env σ H)(st:Step W H W' H'){d:i0}{v:ip}(r:aI K H (Ow G W) d v):aI K H' (Ow G W') d v:=r.mono (ok.istep st) (ok.lstep st)
def Ok.slstep(ok:Ok K G H0 W env σ H)(st:Step W H W' H')(h:dQ K G W H s v)(k:∀a (m:Mo),bS H s v a->H a=↑m.out->W' a/\H' a=↑m.out):dQ K G W' H' s v:=by
 cases s with
 |sh d=>exact ok.rep st h |ow ds =>
   obtain⟨l,vs,e,I,V,r⟩:=h;obtain⟨h1,h2⟩:=k l (.l vs) e V;exact⟨l,vs,e,h1,h2,ok.reps st r⟩
 |o2 dss =>
   obtain⟨l,ls,e,I,V,nd,hi⟩:=h;obtain⟨h1,h2⟩:=k l (.l _) (.inl e) V;have g:∀a vs,a∈ls->H a=↑(.lst vs)->W' a/\H' a=↑(.lst vs):=λa vs U D=>k a (.l vs) (.inr ⟨l,ls,e,V,U⟩) D;refine⟨l,ls,e,h1,h2,nd,hi.1,λj ds a i D=>?_⟩;obtain⟨_,vs,U,t⟩:=hi.2 j ds a i D;obtain⟨k1,k2⟩:=g a vs (bn D) U;exact⟨k1,vs,k2,ok.reps st t⟩
 |ag q r ps =>
   obtain⟨p,as,us,e,I,nd,u,Y,Z⟩:=h;obtain⟨m,b,m2⟩:=Y.mo;obtain⟨h1,h2⟩:=k p m (.inl e) b;exact⟨p,as,us,e,h1,nd,u,m2 H' h2,Z.step (λa vs U D=>k a (.l vs) (.inr ⟨p,us,e,Y.o,Z.parts_iff.mpr U⟩) D) (λ_ _ r=>ok.rep st r) λ_ _ r=>ok.reps st r⟩
 |al _ _=>exact h |ro q ps =>
   obtain⟨p,us,e,I,Y,Z⟩:=h;have c:∀a o,¬W a->H a=↑o->¬W' a:=λa o n e z=>(st.ws a z).elim n λy=>by rw[y] at e;cases e
   obtain⟨m,b,m2⟩:=Y.mo;exact⟨p,us,e,c p _ I b,m2 H' (st.keep p _ b I),Z.step (λa vs f D=>⟨c a _ f D,st.keep a _ D f⟩) (λ_ _ r=>ok.rep st r) λ_ _ r=>ok.reps st r⟩
def Ok.same(ok:Ok K G H0 W env σ H)(s:bG H H'):Ok K G H0 W env σ H':=by
 have st:Step W H W H':=Step.same s;have bk:∀ {i:Nat} {sl:Sl} {v:V} {a:Addr},env[i]?=↑↑sl->σ[i]?=↑↑v->bS H' sl v a->bS H sl v a:=λ{i sl v a} e I o=>by
  obtain⟨f,D,h⟩:=ok.slot i sl e;rw[I] at D;cases D;exact h.back (λl _ _ vs q=>s l _ q) o
 refine⟨ok.stay.trans s,ok.good,λl h=>?_,λi sl e=>?_,λi j Z s2 v1 v2 a I D U Y c d=>ok.uniq i j Z s2 v1 v2 a I D U Y (bk I U c) (bk D Y d),ok.len⟩
 ·obtain⟨a,vs,b⟩:=ok.wl l h
  exact⟨a,vs,s _ _ b⟩
 ·obtain⟨v,I,h⟩:=ok.slot i sl e
  exact⟨v,I,ok.slstep st h λa vs o D=>⟨h.owns o,s _ _ D⟩⟩
def zr{o:HO}(h:H a=none):bG H (a_ H a o):=λb u e=>by rw[jh (rh e h)];exact e
def cS(W:Addr->Prop)(l:Addr):Addr->Prop:=λa=>W a\/a=l
def Ok.fresh0(ok:Ok K G H0 W env σ H)(s:bG H H')(D:H l=none)(I:H' l=↑(.lst vs)) :
  ¬W l/\H0 l=none/\Ok K G H0 (cS W l) env σ H'/\Step W H (cS W l) H':=by
 have V:H0 l=none:=ok.stay.free D;have Y:¬W l:=λz=>by obtain⟨_,vs,q⟩:=ok.wl l z;rw[D] at q;cases q
 have st:Step W H (cS W l) H':=⟨λb o e _=>s b o e,λa z=>z.elim .inl λq=>.inr (by rw[q];exact D)⟩;have U:=ok.same s;refine⟨Y,V,⟨ok.stay.trans s,ok.good,λa z=>?_,λi sl e=>?_,U.uniq,ok.len⟩,st⟩
 ·rcases z with z |rfl
  ·obtain⟨q,us,b⟩:=ok.wl a z
   exact⟨q,us,s _ _ b⟩
  ·exact⟨V,.l vs,I⟩
 ·obtain⟨v,Z,h⟩:=ok.slot i sl e
  exact⟨v,Z,ok.slstep st h λa vs o c=>⟨.inl (h.owns o),s _ _ c⟩⟩
def Ok.fresh(ok:Ok K G H0 W env σ H)(s:bG H H')(D:H l=none)(I:H' l=↑(.lst vs))(r:aI K H' (λa=>(Ow G W a\/H a=none)/\a≠l) ds vs) :
  ¬W l/\H0 l=none/\Ok K G H0 (cS W l) env σ H'/\aI K H' (Ow G (cS W l)) ds vs/\Step W H (cS W l) H':=by
 have V:H0 l=none:=ok.stay.free D;have Y:¬W l:=λz=>by obtain⟨_,vs,q⟩:=ok.wl l z;rw[D] at q;cases q
 have st:Step W H (cS W l) H':=⟨λb o e _=>s b o e,λa z=>z.elim .inl λq=>.inr (by rw[q];exact D)⟩;have Z:∀a,W a->H a≠none:=λa z q=>by obtain⟨_,vs,e⟩:=ok.wl a z;rw[q] at e;cases e
 have U:=ok.same s;refine⟨Y,V,⟨ok.stay.trans s,ok.good,λa z=>?_,λi sl e=>?_,U.uniq,ok.len⟩,r.mono (λ_ _ h=>h) λa us o h=>⟨⟨?_,?_⟩,h⟩,st⟩
 ·rcases z with z |rfl
  ·obtain⟨q,us,b⟩:=ok.wl a z
   exact⟨q,us,s _ _ b⟩
  ·exact⟨V,.l vs,I⟩
 ·obtain⟨v,c,h⟩:=ok.slot i sl e
  exact⟨v,c,ok.slstep st h λa vs o d=>⟨.inl (h.owns o),s _ _ d⟩⟩
 ·rcases o.1 with q |q
  ·exact q.1
  ·exact ok.good a (ok.stay.free q)
 ·rintro(z |z)
  ·rcases o.1 with q |q
   ·exact q.2 z
   ·exact Z a z q
  ·exact o.2 z
def Ok.noOwn(ok:Ok K G H0 W env σ H)(I:¬W l):∀(j:Nat) (s:Sl) (v:V),env[j]?=↑↑s->σ[j]?=↑↑v->¬bS H s v l:=λj s v e U o=>by
 obtain⟨Y,D,h⟩:=ok.slot j s e;rw[U] at D;cases D;exact I (h.owns o)
variable{α:Type}
def BP{N:List α}(D:N.Nodup){x:α}(a:N[i]?=↑x)(b:N[j]?=↑x):i=j:=by
 obtain⟨h1,I⟩:=am.mp a;obtain⟨h2,U⟩:=am.mp b;exact(List.getElem_inj D).mp (I.trans U.symm)
theorem uh{xs:List α}{x y:α}(h:(xs.set i x)[j]?=↑y):(i=j/\y=x/\i<xs.length)\/(i≠j/\xs[j]?=↑y):=by
 by_cases D:i=j
 ·subst D
  by_cases hi:i<xs.length
  ·rw[fj hi] at h;cases h;exact .inl ⟨rfl,rfl,hi⟩
  ·rw[cq (by rw[d7];lia)] at h;cases h
 ·rw[dy D] at h;exact .inr ⟨D,h⟩
def Ok.put(ok:Ok K G H0 W env σ H)(h:dQ K G W H s v)(d:∀(j:Nat) (s':Sl) (f:V) (a:Addr),env[j]?=↑↑s'->σ[j]?=↑↑f->bS H s v a->¬bS H s' f a) :
  Ok K G H0 W (env.set i ↑s) (σ.set i ↑v) H:=by
 refine⟨ok.stay,ok.good,ok.wl,λj sl e=>?_,λj k g s2 v1 v2 a Z l D I b c=>?_,by rw[d7,d7,ok.len]⟩
 ·rcases uh e with⟨rfl,q,hi⟩ | ⟨hj,q⟩
  ·cases q
   exact⟨v,fj (by rw[<-ok.len];exact hi),h⟩
  ·obtain⟨u,Z,r⟩:=ok.slot j sl q
   exact⟨u,by rw[dy hj];exact Z,r⟩
 ·rcases uh Z with⟨a1,b1,c1⟩ | ⟨a1,b1⟩ <;> rcases uh l with⟨U,Y,m⟩ | ⟨U,Y⟩
  ·rw[<-a1,<-U]
  ·subst a1
   cases b1;rw[fj (by rw[<-ok.len];exact c1)] at D;cases D;rw[dy U] at I;exact absurd c (d k s2 v2 a Y I b)
  ·subst U
   cases Y;rw[fj (by rw[<-ok.len];exact m)] at I;cases I;rw[dy a1] at D;exact absurd b (d j g v1 a b1 D c)
  ·rw[dy a1] at D
   rw[dy U] at I;exact ok.uniq j k g s2 v1 v2 a b1 Y D I b c
def Ok.set(ok:Ok K G H0 W env σ H)(r:bB K H (Ow G W) d v):Ok K G H0 W (env.set i ⇑d) (σ.set i ↑v) H :=
 ok.put (s:=.sh d) r λ_ _ _ _ _ _ o=>o.elim
def Ok.setO(ok:Ok K G H0 W env σ H)(D:W l)(I:H l=↑(.lst vs))(r:aI K H (Ow G W) ds vs)(U:∀(j:Nat) (s:Sl) (v:V),env[j]?=↑↑s->σ[j]?=↑↑v->¬bS H s v l) :
  Ok K G H0 W (env.set i ↑(.ow ds)) (σ.set i ↑(.ref l)) H :=
 ok.put (s:=.ow ds) ⟨l,vs,rfl,D,I,r⟩ λj s' Y a e Z o=>by
  have:l=a:=by have o:V.ref l=V.ref a:=o;simpa using o
  subst this;exact U j s' Y e Z
def Ok.let(ok:Ok K G H0 W env σ H)(e:env[i]?=↑↑s)(Z:σ[i]?=↑↑v)(W':Addr->Prop)(I:∀a,W' a↔W a/\¬bS H s v a)(r:bB K H (Ow G W') d v) :
  Step W H W' H/\Ok K G H0 W' (env.set i ⇑d) σ H:=by
 have st:Step W H W' H:=⟨λb o q _=>q,λa z=>.inl ((I a).mp z).1⟩;refine⟨st,⟨ok.stay,ok.good,λa z=>ok.wl a ((I a).mp z).1,λj sl q=>?_,λj k l s2 v1 v2 a m U n p c f=>?_,by rw[d7,ok.len]⟩⟩
 ·rcases uh q with⟨rfl,D,_⟩ | ⟨hj,D⟩
  ·cases D
   exact⟨v,Z,r⟩
  ·obtain⟨u,g,h⟩:=ok.slot j sl D
   exact⟨u,g,ok.slstep st h λa vs o U=>⟨(I a).mpr ⟨h.owns o,λz=>hj (ok.uniq i j s sl v u a e D Z g z o)⟩,U⟩⟩
 ·rcases uh m with⟨_,V,_⟩ | ⟨a1,V⟩
  ·cases V;exact c.elim
  ·rcases uh U with⟨_,Y,_⟩ | ⟨a2,Y⟩
   ·cases Y;exact f.elim
   ·exact ok.uniq j k l s2 v1 v2 a V Y n p c f
def Ok.share(ok:Ok K G H0 W env σ H)(e:env[i]?=↑↑(.ow ds)) :
  ∃W' v,σ[i]?=↑↑v/\Step W H W' H/\Ok K G H0 W' (env.set i ⇑(.lst ds)) σ H/\bB K H (Ow G W') (.lst ds) v:=by
 obtain⟨v,I,l,vs,rfl,V,Y,r⟩:=ok.slot i _ e;have U:bB K H (Ow G λa=>W a/\¬bS H (.ow ds) (.ref l) a) (.lst ds) (.ref l) :=
  .lst ⟨ok.good l (ok.wl l V).1,λz=>z.2 rfl⟩ (.inl Y) (r.mono (λ_ _ h=>h) λa us o h=>⟨⟨o.1,λz=>o.2 z.1⟩,h⟩)
 obtain⟨st,D⟩:=ok.let e I _ (λa=>Iff.rfl) U;exact⟨_,.ref l,I,st,D,U⟩
def vU:∀ {dss:List i0} {ls:gy},vS K G W H dss ls->(∀a,a∈ls->W a->G a/\¬W' a)->(∀ds vs,aI K H (Ow G W) ds vs->aI K H (Ow G W') ds vs)->aI K H (Ow G W') (dss.map D.lst) (ls.map V.ref)
 | [],[],_,_,_=>.nil |ds::dss,a::ls,h,g,r=>by
   obtain⟨Y,vs,Z,b⟩:=h.2 0 ds a rfl rfl;refine .cons (.lst (g a bi Y) (.inl Z) (r _ _ b)) (vU (dss:=dss) (ls:=ls) ⟨lx h.1,λj ds' I c d=>h.2 (j+1) ds' I (by simpa using c) (by simpa using d)⟩ (λI U=>g I (ay _ U)) r)
variable{dss:List i0}
def Ok.share2(ok:Ok K G H0 W env σ H)(e:env[i]?=↑↑(.o2 dss)) :
  ∃W' v,σ[i]?=↑↑v/\Step W H W' H/\Ok K G H0 W' (env.set i ⇑(.lst (dss.map D.lst))) σ H/\bB K H (Ow G W') (.lst (dss.map D.lst)) v:=by
 obtain⟨v,U,l,ls,rfl,Z,V,nd,hi⟩:=ok.slot i _ e;have Y:bB K H (Ow G λa=>W a/\¬bS H (.o2 dss) (.ref l) a) (.lst (dss.map D.lst)) (.ref l) :=
  .lst ⟨ok.good l (ok.wl l Z).1,λz=>z.2 (.inl rfl)⟩ (.inl V) (vU hi (λa b c=>⟨ok.good a (ok.wl a c).1,λz=>z.2 (.inr ⟨l,ls,rfl,V,b⟩)⟩) λds vs r=>r.mono (λ_ _ h=>h) λa us o h=>⟨⟨o.1,λz=>o.2 z.1⟩,h⟩)
 obtain⟨st,I⟩:=ok.let e U _ (λa=>Iff.rfl) Y;exact⟨_,.ref l,U,st,I,Y⟩
def Ok.chg(ok:Ok K G H0 W env σ H){s':Sl}(U:Mo)(e:env[i]?=↑↑s)(t:σ[i]?=↑↑v)(y:bS H s v a)(A:dQ K G W (a_ H a U.out) s' v)(w:∀b,bS (a_ H a U.out) s' v b->bS H s v b):Ok K G H0 W (env.set i ↑s') σ (a_ H a U.out)/\Step W H W (a_ H a U.out):=by
 have f:W a:=by obtain⟨N,g,h⟩:=ok.slot i s e;rw[t] at g;cases g;exact h.owns y
 have st:Step W H W (a_ H a U.out):=⟨λb o q n=>by rw[jh (λz:b=a=>n (by rw[z];exact f))];exact q,λb z=>.inl z⟩;have x:∀ {j:Nat} {sl:Sl} {u:V} {b:Addr},i≠j->env[j]?=↑↑sl->σ[j]?=↑↑u->bS H sl u b->b≠a:=λ{j sl u b} hj q D o z=>by
  subst z;exact hj (ok.uniq i j s sl v u b e q t D y o)
 have bk:∀ {j:Nat} {sl:Sl} {u:V} {b:Addr},i≠j->env[j]?=↑↑sl->σ[j]?=↑↑u->bS (a_ H a U.out) sl u b->bS H sl u b:=λ{j sl u b} hj q D o=>by
  obtain⟨O,Y,h⟩:=ok.slot j sl q;rw[D] at Y;cases Y;cases sl with
  |sh d=>exact o.elim |ow ds=>exact o |o2 dss=>exact h.back (λl Z _ vs c=>by rw[jh (x hj q D (.inl Z))];exact c) o |ag k p ps=>exact h.back (λl Z _ vs c=>by rw[jh (x hj q D (.inl Z))];exact c) o |al _ _=>exact o.elim |ro _ _=>exact o.elim
 refine⟨⟨λb o q=>?_,ok.good,λb z=>?_,λj sl q=>?_,λj k P s2 v1 v2 b D Y Z c B o2=>?_,by rw[d7,ok.len]⟩,st⟩
 ·rw[jh (λz=>by rw[z,(ok.wl a f).1] at q;cases q)];exact ok.stay b o q
 ·obtain⟨q,us,w⟩:=ok.wl b z
  by_cases h:b=a
  ·exact⟨q,U,by rw[h,og]⟩
  ·exact⟨q,us,by rw[jh h];exact w⟩
 ·rcases uh q with⟨rfl,I,_⟩ | ⟨hj,I⟩
  ·cases I
   exact⟨v,t,A⟩
  ·obtain⟨u,g,h⟩:=ok.slot j sl I
   exact⟨u,g,ok.slstep st h λb vs o Y=>⟨h.owns o,by rw[jh (x hj I g o)];exact Y⟩⟩
 ·have back:∀ {m:Nat} {sl:Sl} {u:V},(env.set i ↑s')[m]?=↑↑sl->σ[m]?=↑↑u->bS (a_ H a U.out) sl u b->∃r,env[m]?=↑↑r/\bS H r u b:=λ{m sl u} q D o=>by
   rcases uh q with⟨rfl,I,_⟩ | ⟨hj,I⟩
   ·cases I
    rw[t] at D;cases D;exact⟨s,e,w b o⟩
   ·exact⟨sl,I,bk hj I D o⟩
  obtain⟨C,E,F⟩:=back D Z B;obtain⟨J,L,M⟩:=back Y c o2;exact ok.uniq j k C J v1 v2 b E L Z c F M
variable{ds':i0}{vs':ip}
def Ok.turn(ok:Ok K G H0 W env σ H)(e:env[i]?=↑↑(.ow ds))(I:σ[i]?=↑↑(.ref l))(r:aI K H (Ow G W) ds' vs') :
  Ok K G H0 W (env.set i ↑(.ow ds')) σ (a_ H l (.lst vs'))/\Step W H W (a_ H l (.lst vs')):=by
 obtain⟨v,D,V,vs,rfl,U,Y,_⟩:=ok.slot i _ e;rw[I] at D;cases D;have st:Step W H W (a_ H l (.lst vs')):=⟨λb o q n=>by rw[jh (λz:b=l=>n (by rw[z];exact U))];exact q,λb z=>.inl z⟩;exact ok.chg (.l vs') e I (show bS H (.ow ds) (.ref l) l from rfl) ⟨l,vs',rfl,U,og,ok.reps st r⟩ λb o=>o
def Ok.turn2(ok:Ok K G H0 W env σ H)(e:env[i]?=↑↑(.o2 dss))(s:σ[i]?=↑↑(.ref l))(Z:H l=↑(.lst (ls.map V.ref)))(u:dss[j]?=↑ds)(c:ls[j]?=↑a)(r:aI K H (Ow G W) ds' vs'):Ok K G H0 W (env.set i ↑(.o2 (dss.set j ds'))) σ (a_ H a (.lst vs'))/\Step W H W (a_ H a (.lst vs')):=by
 obtain⟨v,D,w,f,rfl,x,I,nd,hi⟩:=ok.slot i _ e;rw[s] at D;cases D;rw[Z] at I;have:=nR (by simpa using I);subst this;have t:a∈ls:=bn c;have U:W a:=(hi.2 j ds a u c).1;have st:Step W H W (a_ H a (.lst vs')):=⟨λb o q n=>by rw[jh (λz:b=a=>n (by rw[z];exact U))];exact q,λb z=>.inl z⟩;have g:l≠a:=λz=>by subst z;exact(c7.mp nd).1 t
 have Y:a_ H a (.lst vs') l=↑(.lst (ls.map V.ref)):=by rw[jh g];exact Z
 refine ok.chg (.l vs') e s (.inr ⟨l,ls,rfl,Z,t⟩) ⟨l,ls,rfl,x,Y,nd,by rw[d7];exact hi.1,λk es b y d=>?_⟩ λb o=>?_
 ·rcases uh y with⟨rfl,z,_⟩ | ⟨hk,q'⟩
  ·cases z
   rw[c] at d;cases d;exact⟨U,vs',og,ok.reps st r⟩
  ·obtain⟨h,us,m,A⟩:=hi.2 k es b q' d
   refine⟨h,us,?_,ok.reps st A⟩;have p:b≠a:=λz=>hk (by
    subst z;exact BP (c7.mp nd).2 c d)
   rw[jh p];exact m
 ·rcases o with o | ⟨w,f,z,q,m⟩
  ·exact .inl o
  ·cases z
   rw[Y] at q;have:=nR (by simpa using q);subst this;exact .inr ⟨l,ls,rfl,Z,m⟩
def bC.get(h:bC K G W H ps as us)(e:ps[j]?=↑(.o ds)):∃a vs,us[j]?=↑(.ref a)/\a∈as/\W a/\H a=↑(.lst vs)/\aI K H (Ow G W) ds vs:=by
 induction h generalizing j with
 |nil=>simp at e |d _ _ ih =>
   cases j with
   |zero=>simp at e |succ j=>obtain⟨a,vs,h1,h2⟩:=ih (j:=j) (by simpa using e);exact⟨a,vs,by simpa using h1,h2⟩
 | @o _ a vs _ _ _ hW hl r _ ih =>
   cases j with
   |zero=>simp at e;subst e;exact⟨a,vs,rfl,bi,hW,hl,r⟩ |succ j=>obtain⟨a,vs,h1,h2,D⟩:=ih (j:=j) (by simpa using e);exact⟨a,vs,by simpa using h1,ay _ h2,D⟩
def bC.getD(h:bC K G W H ps as us)(e:ps[j]?=↑(.d d)):∃v,us[j]?=↑v/\bB K H (Ow G W) d v:=by
 induction h generalizing j with
 |nil=>simp at e |d q _ ih =>
   cases j with
   |zero=>simp at e;subst e;exact⟨_,rfl,q⟩ |succ j=>obtain⟨a,h1,h2⟩:=ih (j:=j) (by simpa using e);exact⟨a,by simpa using h1,h2⟩
 |o _ _ _ _ ih =>
   cases j with
   |zero=>simp at e |succ j=>obtain⟨a,h1,h2⟩:=ih (j:=j) (by simpa using e);exact⟨a,by simpa using h1,h2⟩
def bC.set(st:Step W H W (a_ H a (.lst vs')))(ok:Ok K G H0 W env σ H)(h:bC K G W H ps as us)(nd:as.Nodup)(e:ps[j]?=↑(.o ds))(D:us[j]?=↑(.ref a))(r:aI K H (Ow G W) ds' vs') :
  bC K G W (a_ H a (.lst vs')) (ps.set j (.o ds')) as us:=by
 induction h generalizing j with
 |nil=>simp at e |d q t ih =>
   cases j with
   |zero=>simp at e |succ j=>exact .d (ok.rep st q) (ih nd (by simpa using e) (by simpa using D))
 | @o es b vs ps' as' us' hW hl q t ih =>
   cases j with
   |zero =>
     simp at D;subst D;refine .o hW og (ok.reps st r) (t.step (λb vs I D=>⟨(t.own I).1,?_⟩) (λ_ _ r=>ok.rep st r) λ_ _ r=>ok.reps st r);rw[jh (λz:b=_=>by subst z;exact(c7.mp nd).1 I)];exact D
   |succ j =>
     have U:a∈as':=t.parts_iff.mp ⟨j,ds,e,D⟩;have V:b≠a:=λz=>by subst z;exact(c7.mp nd).1 U
     exact .o hW (by rw[jh V];exact hl) (ok.reps st q) (ih (c7.mp nd).2 e D)
variable{b:Expr}
def Ia{b:Addr}(e:ps[j]?=↑(.o ds))(h:qP (ps.set j (.o ds')) us b):qP ps us b:=by
 obtain⟨i,es,h1,h2⟩:=h;rcases uh h1 with⟨rfl,_,_⟩ | ⟨_,z⟩
 ·exact⟨j,ds,e,h2⟩
 ·exact⟨i,es,z,h2⟩
variable{r:R2}
def Ok.turnP(ok:Ok K G H0 W env σ H){r:Option Nat}(e:env[i]?=↑↑(.ag k r ps))(s:σ[i]?=↑↑(.ref p))(U:dP K H k p us)(V:ps[j]?=↑(.o ds))(Y:us[j]?=↑(.ref a))(u:aI K H (Ow G W) ds' vs') :
  Ok K G H0 W (env.set i ↑(.ag k r (ps.set j (.o ds')))) σ (a_ H a (.lst vs'))/\Step W H W (a_ H a (.lst vs')):=by
 obtain⟨v,D,p',as,Z,rfl,w,nd,x,c,d⟩:=ok.slot i _ e;rw[s] at D;cases D;have:=zh c U.o;subst this;have t:a∈as:=d.parts_iff.mp ⟨j,ds,V,Y⟩;have f:=(d.own t).1;have st:Step W H W (a_ H a (.lst vs')):=⟨λb o q n=>by rw[jh (λz:b=a=>n (by rw[z];exact f))];exact q,λb z=>.inl z⟩;have g:p≠a:=λz=>by subst z;exact(c7.mp nd).1 t
 have h:=bC.set st ok d (c7.mp nd).2 V Y u;obtain⟨m,y,m2⟩:=U.mo;have I:dP K (a_ H a (.lst vs')) k p us:=m2 _ (by rw[jh g];exact y);refine ok.chg (.l vs') e s (.inr ⟨p,us,rfl,U.o,j,ds,V,Y⟩) ⟨p,as,us,rfl,w,nd,x,I,h⟩ λb o=>?_;rcases o with o | ⟨p',Z,z,q,hb⟩
 ·exact .inl o
 ·cases z
  rw[zh I q] at hb;exact .inr ⟨p,us,rfl,U.o,Ia V hb⟩
structure At (X:Cx) (i:Nat) (x:Str):Prop where
 n:X.N[i]?=↑x
 v:kK X.env.scope x
 d:(x==("__debug__" : Str))=false
 c:(x==("__classdict__" : Str))=false
def At.pe(h:At X i x):PE X (.Name x pos) (iK i):=FX h.n h.v h.d h.c
structure To (X:Cx) (i:Nat) (x:Str):Prop where
 nd:X.N.Nodup
 n:X.N[i]?=↑x
 l:Loc X.env.scope x
 f:X.fn x=true\/X.env.scope.names.lookup x=some .local
structure Bn (X:Cx) (x:Str):Prop where
 g:Gl X x
 m:X.mg x=none
structure cA (N cs:gs) (X:Cx):Prop where
 n:X.N=N
 get:∀i x,N[i]?=↑x->At X i x
 ck:∀u∈cs,X.env.kindOf u=some .cell\/X.env.kindOf u=some .free
structure dW (N:gs) (X:Cx):Prop where
 to:∀i x,N[i]?=↑x->To X i x
variable{N cs:gs}
protected def cA.a(h:cA N cs X)(e:N[i]?=↑x):At X i x:=h.get i x e
protected def dW.t(h:dW N X)(e:N[i]?=↑x):To X i x:=h.to i x e
def cA.nox(h:cA N cs X):cA N cs X.nox:=⟨h.n,λi x e=>let z:=h.get i x e;⟨z.n,z.v,z.d,z.c⟩,h.ck⟩
def dW.nox(h:dW N X):dW N X.nox:=⟨λi x e=>let z:=h.to i x e;⟨z.nd,z.n,z.l,z.f⟩⟩
def hY(x:Str):Bool:=!(x==("__debug__" : Str)) && !(x==("__classdict__" : Str))
def vj(h:hY x=true):(x==("__debug__" : Str))=false/\(x==("__classdict__" : Str))=false:=by
 unfold hY at h;rwa [fq,mw,mw] at h
variable{k:Nat}
def sd{o:Option NameKind}{k:NameKind}(h:(o==↑k)=true):o=↑k:=by
 cases o with
 |none=>cases h
 |some a=>cases a <;> cases k <;> first |rfl |cases h
def aS(N:gs)(ix:g7):gs:=ix.map λi=>N.getD i ("" : Str)
def uq(N cs:gs)(ix:g7)(y:Str)(sc:Scope):Bool:=decide ((y::aS N ix).Nodup) && decide (sc.kind=.function) && (sc.names.lookup y==some .local) && decide (∀z∈sc.names,z.2≠.cell) && decide (∀z∈sc.names,z.2=.local->sc.names.lookup z.1=some .local) && decide (∀z∈sc.names,z.2=.free->z.1∈aS N ix) && (aS N ix).all (λu=>(sc.names.lookup u==some .free) && cs.elem u) && (y::aS N ix).all hY
def vV(h:X.env.scope.names.lookup x=some .globalImplicit):Gl X x:=h
variable{s:Shared}
def Ib(h:sc.names.lookup x=some .local):kK (kz X y N' sc cl C s H fp).env.scope x:=.inl (i9 h)
def Ic(h:sc.names.lookup x=some .free):kK (kz X y N' sc cl C s H fp).env.scope x:=.inr (lO h)
def yl(hA:cA N cs X)(h:uq N cs ix y sc=true):vQ X y (aS N ix) ix sc:=by
 unfold uq at h;simp only[fq,jl,gl] at h;obtain⟨⟨⟨⟨⟨⟨⟨h1,h2⟩,I⟩,U⟩,V⟩,Y⟩,D⟩,_⟩:=h;exact⟨by rw[hA.n];rfl,h1,h2,sd I,U,V,λz Z a=>hA.ck z.1 (List.mem_of_elem_eq_true (D z.1 (Y z Z a)).2),λu b=>sd (D u b).1⟩
def vq(h:uq N cs ix y sc=true):cA (y::aS N ix) (aS N ix) (kz X y (aS N ix) sc cl C s₂ H₂ fp):=by
 unfold uq at h;simp only[fq,jl,gl] at h;obtain⟨⟨⟨⟨⟨⟨⟨h1,h2⟩,U⟩,Y⟩,Z⟩,a⟩,D⟩,I⟩:=h;refine⟨rfl,λi x e=>⟨e,?_,(vj (I x (bn e))).1,(vj (I x (bn e))).2⟩,λu V=>?_⟩
 ·rcases cf.mp (bn e) with rfl |hm
  ·exact Ib (sd U)
  ·exact Ic (sd (D x hm).1)
 ·exact lO (env:=X.env) (sd (D u V).1)
abbrev FE:=aQ->Option (D×aQ)
abbrev FT:=aQ->Option (Bool×aQ)
abbrev FA:=aQ->Option (i0×aQ)
inductive DP (K:ic) (G:Gd) (H0:Hp) {β:Type} (f:aQ->Option (β×aQ)) (P:(Addr->Prop)->aQ->β->aQ->Prop) (σ:St) (H:Hp):Prop
 |mk (W:Addr->Prop) (env:aQ) (d:β) (env':aQ) (ok:Ok K G H0 W env σ H) (q:f env=↑(d,env')) (k:P W env d env'):DP K G H0 f P σ H
def tD(K:ic)(G:Gd)(H0:Hp)(f:FE):TE:=λσ H Q=>DP K G H0 f (λW env d env' =>
 ∀W' v H',Step W H W' H'->Ok K G H0 W' env' σ H'->bB K H' (Ow G W') d v->Q v H') σ H
def qQ(K:ic)(G:Gd)(H0:Hp)(f:FT):TT:=λσ H Q=>DP K G H0 f (λW env b env' =>
 ∀W' H',Step W H W' H'->Ok K G H0 W' env' σ H'->Q b H') σ H
def kE(K:ic)(G:Gd)(H0:Hp)(f:FA):TA:=λσ H Q=>DP K G H0 f (λW env ds env' =>
 ∀W' vs H',Step W H W' H'->Ok K G H0 W' env' σ H'->aI K H' (Ow G W') ds vs->Q vs H') σ H
def gO(K:ic)(G:Gd)(H0:Hp)(f:FA):TE:=λσ H Q=>DP K G H0 f (λW env ds env' =>
 ∀W' l vs H',Step W H (cS W' l) H'->Ok K G H0 W' env' σ H'->Ok K G H0 (cS W' l) env' σ H'->¬W' l->H' l=↑(.lst vs)->aI K H' (Ow G (cS W' l)) ds vs->Q (.ref l) H') σ H
structure aT (X:Cx) (G:Gd) (H0:Hp) (e:Expr) (f:FE):Prop where
 out:PE X e (tD X.K G H0 f)
structure fV (X:Cx) (G:Gd) (H0:Hp) (e:Expr) (f:FT):Prop where
 out:PT X e (qQ X.K G H0 f)
structure eM (X:Cx) (G:Gd) (H0:Hp) (es:h6) (f:FA):Prop where
 out:PA X es (kE X.K G H0 f)
structure f_ (X:Cx) (G:Gd) (H0:Hp) (e:Expr) (f:FA):Prop where
 out:PE X e (gO X.K G H0 f)
variable{e:Expr}{t:TE}{t':TT}
def PE.imp{t':TE}(h:PE X e t)(i:∀σ H Q,t' σ H Q->t σ H Q):PE X e t':=λpins s σ H Q I q=>h pins s σ H Q I (i σ H Q q)
def PT.imp{t:TT}(h:PT X e t)(i:∀σ H Q,t' σ H Q->t σ H Q):PT X e t':=λpins s σ H Q I q=>h pins s σ H Q I (i σ H Q q)
def PA.imp{e:h6}{t t':TA}(h:PA X e t)(i:∀σ H Q,t' σ H Q->t σ H Q):PA X e t':=λpos pins s σ H Q I q=>h pos pins s σ H Q I (i σ H Q q)
@[simp] def aB(i:Nat):FE:=λe=>match e[i]? with
 |some ⇑d=>↑(d,e) |some ↑(.ow ds)=>↑(.lst ds,e.set i ⇑(.lst ds))
 |some ↑(.o2 dss)=>↑(.lst (dss.map D.lst),e.set i ⇑(.lst (dss.map D.lst)))
 |_=>none
@[simp] def fC(d:D):FE:=λe=>↑(d,e)
@[simp] def aD(op:D->D->jj)(f g:FE):FE:=λe=>(f e).bind λr=>(g r.2).bind λq=>(op r.1 q.1).map λd=>(d,q.2)
@[simp] def iN(op:D->jj)(f:FE):FE:=λe=>(f e).bind λr=>(op r.1).map λd=>(d,r.2)
@[simp] def dR(f g:FT):FT:=λe=>(f e).bind λr=>if r.1=true then g r.2 else ↑(false,r.2)
@[simp] def gK(f g:FT):FT:=λe=>(f e).bind λr=>if r.1=true then ↑(true,r.2) else g r.2
@[simp] def dS(f:FT):FT:=λe=>(f e).map λr=>(!r.1,r.2)
@[simp] def aJ(f:FE):FT:=λe=>(f e).bind λr=>match r.1 with | .bl b=>↑(b,r.2) |_=>none
@[simp] def qR(f g:FE):FE:=λe=>(f e).bind λr=>match r.1 with | .bl true=>g r.2 | .bl false=>↑(.bl false,r.2) |_=>none
@[simp] def vW(f:FE):FE:=λe=>(f e).bind λr=>match r.1 with | .bl b=>↑(.bl (!b),r.2) |_=>none
@[simp] def aC:FA:=λe=>↑([],e)
@[simp] def bc(f:FE)(g:FA):FA:=λe=>(f e).bind λr=>(g r.2).bind λq=>↑(r.1::q.1,q.2)
@[simp] def bH(g:FA):FE:=λe=>(g e).bind λr=>if r.1.length<=64 then ↑(.tup r.1,r.2) else none
@[simp] def ij(g:FA):FA:=λe=>(g e).bind λr=>if r.1.length<=64 then ↑(r.1,r.2) else none
@[simp] def aL(g:FA):FE:=λe=>(g e).map λr=>(.lst r.1,r.2)
@[simp] def iw:D->D->jj | .int i,.int j=>↑↥(i+j) |_,_=>none
@[simp] def bO:D->D->jj | .int i,.int j=>↑↥(i-j) |_,_=>none
def n8(i:Int):Prop:=-(2 ^ 64)<i/\i<2 ^ 64
noncomputable instance (i:Int):Decidable (n8 i):=Classical.propDecidable _
def cE(n:Nat):Prop:=n<=2 ^ 20
noncomputable instance (n:Nat):Decidable (cE n):=Classical.propDecidable _
def gA(lo hi i:Int):Prop:=lo<=i/\i<hi
noncomputable instance (lo hi i:Int):Decidable (gA lo hi i):=Classical.propDecidable _
def bT:D->D->jj | .int i,.int j=>if n8 i\/n8 j then ↑↥(i*j) else none |_,_=>none
def aZ:D->D->jj | .int i,.int j=>if 0<j then ↑↥(i % j) else none |_,_=>none
def bV:D->D->jj | .int i,.int j=>if gA 1 1073741824 j then ↑↥(i / j) else none |_,_=>none
@[simp] def fO:D->jj | .int i=>↑↥(-i) |_=>none
@[simp] def fB:D->D->jj | .int i,.int j=>↑(.bl (decide (i<j))) |_,_=>none
@[simp] def dU:D->D->jj | .int i,.int j=>↑(.bl (decide (j<i))) |_,_=>none
@[simp] def jN:D->D->jj | .int i,.int j=>↑(.bl (decide (j<=i))) |_,_=>none
@[simp] def eU:D->D->jj
 | .int i,.int j=>↑(.bl (decide (i=j))) | .str i,.str j=>↑(.bl (decide (i=j))) | .bl i,.bl j=>↑(.bl (decide (i=j))) |_,_=>none
@[simp] def kF:D->D->jj
 | .int i,.int j=>↑(.bl (!decide (i=j))) | .str i,.str j=>↑(.bl (!decide (i=j))) | .bl i,.bl j=>↑(.bl (!decide (i=j))) |_,_=>none
@[simp] def cV:D->D->jj | .tup ds,.int i=>bJ ds i | .lst ds,.int i=>bJ ds i |_,_=>none
def fM(X:Cx)(G:Gd)(H0:Hp)(r:R2)(op:D->D->jj):Prop :=
 ∀W env σ H x y d1 d2 d (Q:VK),Ok X.K G H0 W env σ H->bB X.K H (Ow G W) d1 x->bB X.K H (Ow G W) d2 y->op d1 d2=↑d ->
  (∀v H',Step W H W H'->Ok X.K G H0 W env σ H'->bB X.K H' (Ow G W) d v->Q v H')->r x y H Q
variable{g:FE}{op:D->D->jj}
def nS(Y:fM X G H0 r op):∀σ H Q,tD X.K G H0 (aD op f g) σ H Q->nF r (tD X.K G H0 f) (tD X.K G H0 g) σ H Q:=by
 rintro σ H Q ⟨W,env,d,env',ok,e,k⟩;cases e1:f env with
 |none=>simp[e1] at e |some r1 =>
   cases e2:g r1.2 with
   |none=>simp[e1,e2] at e |some r2 =>
     have e:(op r1.1 r2.1).map (λd=>(d,r2.2))=↑(d,env'):=by simpa[aD,e1,e2] using e
     cases e3:op r1.1 r2.1 with
     |none=>rw[e3] at e;cases e
     |some d' =>
       rw[e3] at e;have Z:(d',r2.2)=(d,env'):=b9 e;cases Z;refine⟨W,env,r1.1,r1.2,ok,e1,λW1 v1 H1 a D p1=>⟨W1,r1.2,r2.1,r2.2,D,e2,λV v2 H2 s2 I p2=>?_⟩⟩;exact Y V _ σ H2 v1 v2 _ _ _ Q I (D.rep s2 p1) p2 e3 λv b c U h=>k V v b ((a.trans s2).trans c) U h
variable{a:Expr}{p:D->D->jj}
def lP{op:Operator}(D:fN X (binaryOp op) r)(hd:fM X G H0 r p)(I:aT X G H0 a f)(U:aT X G H0 b g):aT X G H0 (.BinOp a op b pos) (aD p f g) :=
 ⟨(qH D I.out U.out).imp (nS hd)⟩
def Ie{op:CmpOp}(D:fN X (compareOp op) r)(hd:fM X G H0 r p)(I:aT X G H0 a f)(U:aT X G H0 b g)(V:behindInMarks op b=false):aT X G H0 (.Compare a [op] [b] pos) (aD p f g) :=
 ⟨(GN D I.out U.out V).imp (nS hd)⟩
def Ig(D:jB X r)(hd:fM X G H0 r p)(I:aT X G H0 a f)(U:aT X G H0 b g)(V:lM b):aT X G H0 (.Subscript a b pos) (aD p f g) :=
 ⟨(qN D I.out U.out V).imp (nS hd)⟩
def BQ(h:∀σ H Q,tD X.K G H0 f σ H Q->t σ H Q):∀σ H Q,qQ X.K G H0 (aJ f) σ H Q->Bu t σ H Q:=by
 rintro σ H Q ⟨W,env,b,env',ok,e,k⟩;refine h σ H _ ?_;cases e1:f env with
 |none=>simp[e1] at e |some r1 =>
   obtain⟨d,env1⟩:=r1;cases d with
   |bl b' =>
     have e:↑(b',env1)=↑(b,env'):=by simpa[aJ,e1] using e
     cases e;exact⟨W,env,_,_,ok,e1,λW1 v1 H1 I D p1=>⟨_,p1.bl_,k W1 H1 I D⟩⟩
   |_=>simp[e1] at e
def lQ{op:CmpOp}(D:fN X (compareOp op) r)(hd:fM X G H0 r p)(I:aT X G H0 a f)(U:aT X G H0 b g)(V:behindInMarks op b=false):fV X G H0 (.Compare a [op] [b] pos) (aJ (aD p f g)) :=
 ⟨(GO D I.out U.out V).imp (BQ (nS hd))⟩
variable{g:Int->Int->Int}
def jO{C:Int->Int->Prop}(h:∀D I d,op D I=↑d->∃i j,D=.int i/\I=.int j/\C i j/\d=.int (g i j)):fM X G H0 (rI C λi j=>.int (g i j)) op:=by
 intro W env σ H x y D I d Q ok p1 p2 e k;obtain⟨i,j,rfl,rfl,U,rfl⟩:=h _ _ _ e;exact⟨i,j,p1.int_,p2.int_,U,k _ H Step.refl ok ↥_⟩
def BR(h:∀D I d,op D I=↑d->∃i j,D=.int i/\I=.int j/\d=.int (g i j)):fM X G H0 (hL λi j=>.int (g i j)) op:=by
 intro W env σ H x y D I d Q ok p1 p2 e k;obtain⟨i,j,rfl,rfl,rfl⟩:=h _ _ _ e;exact⟨i,j,p1.int_,p2.int_,k _ H Step.refl ok ↥_⟩
variable{g:FE}
def vX{g:Int->Int->Bool}(h:∀D I d,op D I=↑d->∃i j,D=.int i/\I=.int j/\d=.bl (g i j)):fM X G H0 (hL λi j=>.bl (g i j)) op:=by
 intro W env σ H x y D I d Q ok p1 p2 e k;obtain⟨i,j,rfl,rfl,rfl⟩:=h _ _ _ e;exact⟨i,j,p1.int_,p2.int_,k _ H Step.refl ok (.bl _)⟩
def Ih:fM X G H0 (hL λi j=>.int (i+j)) iw:=BR λD I d e=>by
 cases D <;> try (cases e;done)
 all_goals cases I <;> first | (cases e;done) |exact⟨_,_,rfl,rfl,(b9 e).symm⟩
def Ii:fM X G H0 (hL λi j=>.int (i-j)) bO:=BR λD I d e=>by
 cases D <;> try (cases e;done)
 all_goals cases I <;> first | (cases e;done) |exact⟨_,_,rfl,rfl,(b9 e).symm⟩
def Ij:fM X G H0 (rI jK λi j=>.int (i*j)) bT:=jO λD I d e=>by
 cases D <;> try (cases e;done)
 all_goals cases I <;> first
  | (cases e;done)
  | (rename_i i j
     by_cases h:n8 i\/n8 j
     ·simp only[bT,ax h] at e;exact⟨_,_,rfl,rfl,h,(b9 e).symm⟩
     ·simp only[bT,cb h] at e;cases e)
def Ik:fM X G H0 (rI (λ_ j=>0<j) λi j=>.int (i % j)) aZ:=jO λD I d e=>by
 cases D <;> try (cases e;done)
 all_goals cases I <;> first
  | (cases e;done)
  | (rename_i i j
     by_cases h:0<j
     ·simp only[aZ,ax h] at e;exact⟨_,_,rfl,rfl,h,(b9 e).symm⟩
     ·simp only[aZ,cb h] at e;cases e)
theorem Il:fM X G H0 (rI nH λi j=>.int (i / j)) bV:=jO λD I d e=>by
 cases D <;> try (cases e;done)
 all_goals cases I <;> first
  | (cases e;done)
  | (rename_i i j
     by_cases h:gA 1 1073741824 j
     ·simp only[bV,ax h] at e;exact⟨_,_,rfl,rfl,⟨by have:=h.1;lia,h.2⟩,(b9 e).symm⟩
     ·simp only[bV,cb h] at e;cases e)
def Io:fM X G H0 (hL λi j=>.bl (decide (i<j))) fB:=vX λD I d e=>by
 cases D <;> try (cases e;done)
 all_goals cases I <;> first | (cases e;done) |exact⟨_,_,rfl,rfl,(b9 e).symm⟩
def BS:fM X G H0 (hL λi j=>.bl (decide (j<i))) dU:=vX λD I d e=>by
 cases D <;> try (cases e;done)
 all_goals cases I <;> first | (cases e;done) |exact⟨_,_,rfl,rfl,(b9 e).symm⟩
def Ip:fM X G H0 (hL λi j=>.bl (decide (j<=i))) jN:=vX λD I d e=>by
 cases D <;> try (cases e;done)
 all_goals cases I <;> first | (cases e;done) |exact⟨_,_,rfl,rfl,(b9 e).symm⟩
def BU(i j:Int):decide (V.int i=V.int j)=decide (i=j):=by simp
def BV(i j:Str):decide (V.str i=V.str j)=decide (i=j):=by simp
def BW(i j:Bool):decide (V.bl i=V.bl j)=decide (i=j):=by simp
def Iq:fM X G H0 Bm eU:=by
 intro W env σ H x y D I d Q ok p1 p2 e k;cases D <;> try (cases e;done)
 all_goals cases I <;> first
  | (cases e;done)
  | (cases p1.int_;cases p2.int_;cases e;refine⟨rfl,?_⟩;rw[BU];exact k _ H Step.refl ok (.bl _))
  | (cases p1.str_;cases p2.str_;cases e;refine⟨rfl,?_⟩;rw[BV];exact k _ H Step.refl ok (.bl _))
  | (cases p1.bl_;cases p2.bl_;cases e;refine⟨rfl,?_⟩;rw[BW];exact k _ H Step.refl ok (.bl _))
def Ir:fM X G H0 Bo kF:=by
 intro W env σ H x y D I d Q ok p1 p2 e k;cases D <;> try (cases e;done)
 all_goals cases I <;> first
  | (cases e;done)
  | (cases p1.int_;cases p2.int_;cases e;refine⟨rfl,?_⟩;rw[BU];exact k _ H Step.refl ok (.bl _))
  | (cases p1.str_;cases p2.str_;cases e;refine⟨rfl,?_⟩;rw[BV];exact k _ H Step.refl ok (.bl _))
  | (cases p1.bl_;cases p2.bl_;cases e;refine⟨rfl,?_⟩;rw[BW];exact k _ H Step.refl ok (.bl _))
def lR{i:Int}(r:aI K H O ds vs)(h:bJ ds i=↑d):∃v,bJ vs i=↑v/\bB K H O d v:=by
 unfold bJ at h ⊢;rw[<-r.length];cases q:dJ ds.length i with
 |none=>rw[q] at h;cases h
 |some j=>rw[q] at h;exact r.get h
def Is:fM X G H0 (BA X.K) cV:=by
 intro W env σ H x y U V d Q ok p1 p2 e k;cases U <;> first
  | (cases e;done)
  | (cases V <;> first
      | (cases e;done)
      | (cases p2
         first
          | (obtain⟨a, vs, rfl, h, r⟩ := p1.tup_
             obtain⟨v,D,I⟩:=lR r e;exact .inr (.inl ⟨a,vs,_,v,rfl,rfl,dV.of h,D,k _ H Step.refl ok I⟩))
          | (obtain⟨a, vs, rfl, h, r⟩ := p1.lst_
             obtain⟨v,D,I⟩:=lR r e;exact .inl ⟨a,vs,_,v,rfl,rfl,h.sq,D,k _ H Step.refl ok I⟩)))
def lq(D:aT X G H0 a f)(I:aT X G H0 b g):aT X G H0 (.BinOp a .Add b pos) (aD iw f g):=lP GD Ih D I
def n9(D:aT X G H0 a f)(I:aT X G H0 b g):aT X G H0 (.BinOp a .Sub b pos) (aD bO f g):=lP Bj Ii D I
def qi(D:aT X G H0 a f)(I:aT X G H0 b g):aT X G H0 (.BinOp a .Mult b pos) (aD bT f g):=lP GE Ij D I
def ni(D:aT X G H0 a f)(I:aT X G H0 b g):aT X G H0 (.BinOp a .Mod b pos) (aD aZ f g):=lP GG Ik D I
def tm(D:aT X G H0 a f)(I:aT X G H0 b g):aT X G H0 (.BinOp a .FloorDiv b pos) (aD bV f g):=lP GF Il D I
def Iu(D:aT X G H0 a f)(I:aT X G H0 b g):aT X G H0 (.Compare a [.Gt] [b] pos) (aD dU f g):=Ie Bt BS D I (zi _)
def tj(D:aT X G H0 a f)(I:aT X G H0 b g):fV X G H0 (.Compare a [.Lt] [b] pos) (aJ (aD fB f g)):=lQ GL Io D I (zi _)
def qr(D:aT X G H0 a f)(I:aT X G H0 b g):fV X G H0 (.Compare a [.Gt] [b] pos) (aJ (aD dU f g)):=lQ Bt BS D I (zi _)
def qS(D:aT X G H0 a f)(I:aT X G H0 b g):fV X G H0 (.Compare a [.GtE] [b] pos) (aJ (aD jN f g)):=lQ GM Ip D I (zi _)
def r8(D:aT X G H0 a f)(I:aT X G H0 b g):fV X G H0 (.Compare a [.Eq] [b] pos) (aJ (aD eU f g)):=lQ GJ Iq D I (zi _)
def lS(D:aT X G H0 a f)(I:aT X G H0 b g):fV X G H0 (.Compare a [.NotEq] [b] pos) (aJ (aD kF f g)):=lQ GK Ir D I (zi _)
def n6(D:aT X G H0 a f)(I:aT X G H0 b g)(U:lM b:=by intro _ _;rfl):aT X G H0 (.Subscript a b pos) (aD cV f g):=Ig vA Is D I U
variable{Nn Cn:gs}
def bo(an:cA Nn Cn X)(U:‹Nn[i]?=↑x›):aT X G H0 (.Name x pos) (aB i):=⟨((an.a U).pe).imp λσ H Q V=>by
 obtain⟨W,env,d,env',ok,e,k⟩:=V;unfold aB at e;cases q:env[i]? with
 |none=>rw[q] at e;cases e
 |some o =>
   cases o with
   |none=>rw[q] at e;cases e
   |some sl =>
     cases sl with
     |sh d' =>
       rw[q] at e;cases e;obtain⟨v,I,r⟩:=ok.slot i _ q;exact⟨v,I,k W v H Step.refl ok r⟩
     |ow ds =>
       rw[q] at e;cases e;obtain⟨W',v,I,st,D,r⟩:=ok.share q;exact⟨v,I,k W' v H st D r⟩
     |o2 dss =>
       rw[q] at e;cases e;obtain⟨W',v,I,st,D,r⟩:=ok.share2 q;exact⟨v,I,k W' v H st D r⟩
     |ag _ _ _=>rw[q] at e;cases e
     |al _ _=>rw[q] at e;cases e
     |ro _ _=>rw[q] at e;cases e⟩
def jP(h:PE X e (tC v))(r:∀H O,bB X.K H O d v):aT X G H0 e (fC d):=⟨h.imp λσ H Q D=>by
 obtain⟨W,env,d',env',ok,q,k⟩:=D;cases q;exact k W v H Step.refl ok (r _ _)⟩
def dm{i:Int}:aT X G H0 (.Constant ↥i j pos) (fC ↥i):=jP uJ λ_ _=>.int _
def qk{i:Bool}:aT X G H0 (.Constant (.bool i) j pos) (fC (.bl i)):=jP FY λ_ _=>.bl _
def ml{i:Str}:aT X G H0 (.Constant (.str i) j pos) (fC (.str i)):=jP AY λ_ _=>.str _
def nT(U:aT X G H0 a f):aT X G H0 (.UnaryOp .USub a pos) (iN fO f):=⟨(Bi Bl U.out).imp λσ H Q V=>by
 obtain⟨W,env,d',env',ok,q,k⟩:=V;cases e1:f env with
 |none=>simp[e1] at q |some r =>
   obtain⟨d,env1⟩:=r;cases d with
   |int i =>
     have q:↑(D.int (-i),env1)=↑(d',env'):=by simpa[iN,e1,fO] using q
     cases q;exact⟨W,env,_,_,ok,e1,λW1 v1 H1 Y I p1=>⟨i,p1.int_,k W1 _ H1 Y I ↥_⟩⟩
   |_=>simp[e1] at q⟩
structure kQ (X:Cx) (G:Gd) (H0:Hp) (e:Expr) (f:FT):Prop where
 out:PW X e (qQ X.K G H0 f)
variable{t:TI}
def PW.imp{t:TT}(h:PW X e t)(i:∀σ H Q,t' σ H Q->t σ H Q):PW X e t':=λw pins s σ H Q I q=>h w pins s σ H Q I (i σ H Q q)
variable{p:FT}
def dL(h:kQ X G H0 e p):fV X G H0 e p:=⟨PW.pt h.out⟩
def zo(h:fV X G H0 a p):kQ X G H0 (.BoolOp .And [a] pos) p:=⟨Ga h.out⟩
def uw(h:fV X G H0 a p):kQ X G H0 (.BoolOp .Or [a] pos) p:=⟨Gb h.out⟩
variable{rest:h6}
def zg(h:fV X G H0 a p)(h2:kQ X G H0 (.BoolOp .And (b::rest) pos) q):kQ X G H0 (.BoolOp .And (a::b::rest) pos) (dR p q):=⟨(Gc h.out h2.out).imp λσ H Q V=>by
 obtain⟨W,env,d,env',ok,e,k⟩:=V;cases e1:p env with
 |none=>simp[e1] at e |some r =>
   obtain⟨t,env1⟩:=r;refine⟨W,env,t,env1,ok,e1,λW1 H1 U D=>?_⟩;cases t with
   |true =>
     exact⟨W1,env1,d,env',D,by simpa[dR,e1] using e,λY H2 s2 I=>k Y H2 (U.trans s2) I⟩
   |false =>
     have e:↑(false,env1)=↑(d,env'):=by simpa[dR,e1] using e
     cases e;exact k W1 H1 U D⟩
def uv(h:fV X G H0 a p)(h2:kQ X G H0 (.BoolOp .Or (b::rest) pos) q):kQ X G H0 (.BoolOp .Or (a::b::rest) pos) (gK p q):=⟨(Ge h.out h2.out).imp λσ H Q V=>by
 obtain⟨W,env,d,env',ok,e,k⟩:=V;cases e1:p env with
 |none=>simp[e1] at e |some r =>
   obtain⟨t,env1⟩:=r;refine⟨W,env,t,env1,ok,e1,λW1 H1 U D=>?_⟩;cases t with
   |false =>
     exact⟨W1,env1,d,env',D,by simpa[gK,e1] using e,λY H2 s2 I=>k Y H2 (U.trans s2) I⟩
   |true =>
     have e:↑(true,env1)=↑(d,env'):=by simpa[gK,e1] using e
     cases e;exact k W1 H1 U D⟩
def ug(h:fV X G H0 a p):fV X G H0 (.UnaryOp .Not a pos) (dS p):=⟨(Gf h.out).imp λσ H Q I=>by
 obtain⟨W,env,d,env',ok,e,k⟩:=I;cases e1:p env with
 |none=>simp[e1] at e |some r =>
   have e:↑(!r.1,r.2)=↑(d,env'):=by simpa[dS,e1] using e
   cases e;exact⟨W,env,_,_,ok,e1,λW1 H1 U D=>k W1 H1 U D⟩⟩
def re(h:aT X G H0 a f)(D:∀whole,isTrue a X.env whole=(do let v <-whole;standAt a.pos;holding [v] (truthy v)):=by intro _;rfl):fV X G H0 a (aJ f):=⟨(FZ h.out D).imp (BQ λ_ _ _ z=>z)⟩
variable{op:i0->jj}
def Iv{op:BoolOp}(h:aT X G H0 a f):aT X G H0 (.BoolOp op [a] pos) f:=⟨Gi h.out⟩
def Iw(h:aT X G H0 a f)(h2:aT X G H0 (.BoolOp .And (b::rest) pos) g):aT X G H0 (.BoolOp .And (a::b::rest) pos) (qR f g):=⟨(Gj h.out h2.out).imp λσ H Q Y=>by
 obtain⟨W,env,d,env',ok,e,k⟩:=Y;cases e1:f env with
 |none=>simp[e1] at e |some r =>
   obtain⟨t,env1⟩:=r;refine⟨W,env,t,env1,ok,e1,λW1 v1 H1 V I p1=>?_⟩;cases t with
   |bl t =>
     refine⟨t,p1.bl_,?_⟩;cases t with
     |true =>
       exact⟨W1,env1,d,env',I,by simpa[qR,e1] using e,λZ v2 H2 s2 U p2=>k Z v2 H2 (V.trans s2) U p2⟩
     |false =>
       have e:↑(D.bl false,env1)=↑(d,env'):=by simpa[qR,e1] using e
       cases e;exact k W1 _ H1 V I (.bl _)
   |_=>simp[e1] at e⟩
def Ix(h:aT X G H0 a f):aT X G H0 (.UnaryOp .Not a pos) (vW f):=⟨(Gk h.out).imp λσ H Q U=>by
 obtain⟨W,env,d,env',ok,e,k⟩:=U;cases e1:f env with
 |none=>simp[e1] at e |some r =>
   obtain⟨t,env1⟩:=r;refine⟨W,env,t,env1,ok,e1,λW1 v1 H1 V I p1=>?_⟩;cases t with
   |bl t =>
     have e:↑(D.bl (!t),env1)=↑(d,env'):=by simpa[vW,e1] using e
     cases e;exact⟨t,p1.bl_,k W1 _ H1 V I (.bl _)⟩
   |_=>simp[e1] at e⟩
def df  : eM X G H0 [] aC:=⟨qt.imp λσ H Q D=>by
 obtain⟨W,env,ds,env',ok,e,k⟩:=D;cases e;exact k W [] H Step.refl ok .nil⟩
variable{F:FA}
def b7(U:aT X G H0 e f)(V:eM X G H0 es F)(Y:‹starEach (e::es) X.env=(false,eval e X.env)::starEach es X.env›):eM X G H0 (e::es) (bc f F):=⟨(oy U.out V.out Y).imp λσ H Q Z=>by
 obtain⟨W,env,ds,env',ok,q,k⟩:=Z;cases e1:f env with
 |none=>simp[e1] at q |some r =>
   obtain⟨d,env1⟩:=r;cases e2:F env1 with
   |none=>simp[e1,e2] at q |some r2 =>
     have q:↑(d::r2.1,r2.2)=↑(ds,env'):=by simpa[bc,e1,e2] using q
     cases q;exact⟨W,env,d,env1,ok,e1,λW1 v1 H1 a D p1=>⟨W1,env1,_,_,D,e2,λb vs H2 s2 I p2=>k b _ H2 (a.trans s2) I (.cons (D.rep s2 p1) p2)⟩⟩⟩
def nU(h:n<=64):n<=sizeLine:=cy h (by rw[ie];decide)
def m6{k1}(h:eM X G H0 es F):aT X G H0 (.Tuple es k1 pos) (bH F):=⟨(Bz h.out).imp λσ H Q V=>by
 obtain⟨W,env,d,env',ok,q,k⟩:=V;cases e1:F env with
 |none=>simp[e1] at q |some r =>
   obtain⟨ds,env1⟩:=r;by_cases U:ds.length<=64
   ·have q:↑(D.tup ds,env1)=↑(d,env'):=by simpa[bH,e1,U] using q
    cases q;refine⟨W,env,ds,_,ok,e1,λW1 vs H1 Y I p1=>⟨by rw[<-p1.length];exact nU U,λl Z=>?_⟩⟩;have sm:bG H1 (a_ H1 l (.tup vs)):=zr Z;have st:Step W1 H1 W1 (a_ H1 l (.tup vs)):=Step.same sm;exact k W1 _ _ (Y.trans st) (I.same sm) (.tup og (I.reps st p1))
   ·simp[e1,U] at q⟩
def yh(ok:Ok X.K G H0 W env σ H)(r:aI X.K H (Ow G W) ds vs)(D:H l=none) :
  Step W H (cS W l) (a_ H l (.lst vs))/\Ok X.K G H0 W env σ (a_ H l (.lst vs))/\Ok X.K G H0 (cS W l) env σ (a_ H l (.lst vs))/\¬W l/\a_ H l (.lst vs) l=↑(.lst vs)/\aI X.K (a_ H l (.lst vs)) (Ow G (cS W l)) ds vs:=by
 have sm:bG H (a_ H l (.lst vs)):=zr D;obtain⟨h1,h2,I,U,V⟩:=ok.fresh (l:=l) (vs:=vs) (ds:=ds) sm D og ((r.mono (O':=λa=>(Ow G W a\/H a=none)/\a≠l) (λ_ _ h=>sm _ _ h) λa us o h=>⟨⟨.inl o,λz=>by
  subst z;have h2:Rd H a (.lst us):=h;rcases h2 with h2 | ⟨_,h2⟩ <;> rw[D] at h2 <;> cases h2⟩,h.keep λo e=>sm _ o e⟩))
 exact⟨V,ok.same sm,I,h1,og,U⟩
def kh(h:eM X G H0 es F):f_ X G H0 (.List es pos) (ij F):=⟨(He h.out).imp λσ H Q U=>by
 obtain⟨W,env,d,env',ok,q,k⟩:=U;cases e1:F env with
 |none=>simp[e1] at q |some r =>
   obtain⟨ds,env1⟩:=r;by_cases D:ds.length<=64
   ·have q:↑(ds,env1)=↑(d,env'):=by simpa[ij,e1,D] using q
    cases q;refine⟨W,env,_,_,ok,e1,λW1 vs H1 V I p1=>⟨by rw[<-p1.length];exact nU D,λl Y=>?_⟩⟩;obtain⟨h1,h2,Z,a,b,c⟩:=yh I p1 Y;exact k W1 l vs _ (V.trans h1) h2 Z a b c
   ·simp[e1,D] at q⟩
def jg(h:f_ X G H0 e F):aT X G H0 e (aL F):=⟨h.out.imp λσ H Q Y=>by
 obtain⟨W,env,d,env',ok,q,k⟩:=Y;cases e1:F env with
 |none=>simp[e1] at q |some r =>
   have q:↑(D.lst r.1,r.2)=↑(d,env'):=by simpa[aL,e1] using q
   cases q;refine⟨W,env,_,_,ok,e1,λW1 l vs H1 V I U Z b c=>k W1 _ H1 ⟨V.keep,λa z=>V.ws a (.inl z)⟩ I (.lst ⟨I.good l (U.wl l (.inr rfl)).1,Z⟩ (.inl b) (c.mono (λ_ _ h=>h) λa us o h=>⟨⟨o.1,λz=>o.2 (.inl z)⟩,h⟩))⟩⟩
def b_(P:Program)(w:World)(K:ic)(mg:Str->gx)(base:Heap)(CX:gW)(x:Str)(k:Nat)(sp:Sp):Prop :=
 ∃fa fd ps,cJ P w K mg base CX k fa fd ps sp/\mg x=↑(.ref fa)/\PySem.W.keepIn K (.ref fa)=true/\Binds K fd ps []/\(x==("__debug__" : Str))=false
def cT(K:ic)(m:i0->jj):Sp:=λvs H Q _=>∃O ds d,aI K H O ds vs/\m ds=↑d/\∀v H',bG H H'->bB K H' (λa=>O a\/H a=none) d v->Q v H'
def jQ(K:ic)(m:i0->Option i0):Sp:=λvs H Q _=>∃O ds I,aI K H O ds vs/\m ds=↑I/\∀l us H',bG H H'->H l=none->H' l=↑(.lst us)->aI K H' (λa=>(O a\/H a=none)/\a≠l) I us->Q (.ref l) H'
@[simp] def e9(m:i0->jj)(F:FA):FE:=λe=>(F e).bind λr=>(m r.1).map λd=>(d,r.2)
@[simp] def gq(m:i0->Option i0)(F:FA):FA:=λe=>(F e).bind λr=>(m r.1).map λd=>(d,r.2)
variable{m:i0->jj}{E:XK}
def Iy:∀σ H Q,tD X.K G H0 (e9 m F) σ H Q->qK (cT X.K m) [] E (kE X.K G H0 F) σ H Q:=λσ H Q I=>by
 obtain⟨W,env,d,env',ok,q,k⟩:=I;cases e1:F env with
 |none=>simp[e1] at q |some r =>
   obtain⟨ds,env1⟩:=r;cases e2:m ds with
   |none=>simp[e1,e2] at q |some d' =>
     have q:↑(d',env1)=↑(d,env'):=by simpa[e9,e1,e2] using q
     cases q;refine⟨W,env,ds,_,ok,e1,λW1 vs H1 U D p1=>?_⟩;show cT X.K m (vs++[]) H1 Q E;rw[c8];refine⟨Ow G W1,ds,_,p1,e2,λv H2 sm V=>?_⟩;refine k W1 v H2 (U.trans (Step.same sm)) (D.same sm) (V.mono (λ_ _ h=>h) λa us o h=>⟨?_,h⟩);rcases o with o |o
     ·exact o
     ·exact⟨D.good a (D.stay.free o),λz=>by obtain⟨_,us,q⟩:=D.wl a z;rw[o] at q;cases q⟩
def Iz{m:i0->Option i0}:∀σ H Q,gO X.K G H0 (gq m F) σ H Q->qK (jQ X.K m) [] E (kE X.K G H0 F) σ H Q:=λσ H Q V=>by
 obtain⟨W,env,d,env',ok,q,k⟩:=V;cases e1:F env with
 |none=>simp[e1] at q |some r =>
   obtain⟨ds,env1⟩:=r;cases e2:m ds with
   |none=>simp[e1,e2] at q |some d' =>
     have q:↑(d',env1)=↑(d,env'):=by simpa[gq,e1,e2] using q
     cases q;refine⟨W,env,ds,_,ok,e1,λW1 vs H1 Y I p1=>?_⟩;show jQ X.K m (vs++[]) H1 Q E;rw[c8];refine⟨Ow G W1,ds,_,p1,e2,λl us H2 sm Z U a=>?_⟩;obtain⟨h1,h2,b,c,e⟩:=I.fresh sm Z U a;exact k W1 l us H2 (Y.trans e) (I.same sm) b h1 U c
variable{jr:Nat}{p':Pos}
def iq(c:b_ X.prog X.w X.K X.mg X.base cD x k (cT X.K m))(V:bE jr X.A)(Y:eM X G H0 (e::es) F)(D:k<=jr:=by decide)(Z:Gl X x:=by walk_at "g")(a:‹starEach (e::es) X.env=(false,eval e X.env)::starEach es X.env›)(I:‹(backTo pos (starEach es X.env)).any (·.1)=false›) :
  aT X G H0 (.Call (.Name x p') (e::es) [] pos) (e9 m F):=let ⟨_,_,_,b,d,f,g,U⟩:=c;⟨(qL b (V.mono D) Z d f g .nil qO Y.out U a I).imp Iy⟩
variable{mF:i0->Option i0}
def lT(c:b_ X.prog X.w X.K X.mg X.base cD x k (jQ X.K mF))(V:bE jr X.A)(Y:eM X G H0 (e::es) F)(D:k<=jr:=by decide)(Z:Gl X x:=by walk_at "g")(a:‹starEach (e::es) X.env=(false,eval e X.env)::starEach es X.env›)(I:‹(backTo pos (starEach es X.env)).any (·.1)=false›) :
  f_ X G H0 (.Call (.Name x p') (e::es) [] pos) (gq mF F):=let ⟨_,_,_,b,d,f,g,U⟩:=c;⟨(qL b (V.mono D) Z d f g .nil qO Y.out U a I).imp Iz⟩
def xf(X:Cx)(G:Gd)(H0:Hp)(r:ip->Hp->VK->Prop)(op:i0->jj):Prop :=
 ∀W env σ H vs ds d (Q:VK),Ok X.K G H0 W env σ H->aI X.K H (Ow G W) ds vs->op ds=↑d ->
  (∀v H',Step W H W H'->Ok X.K G H0 W env σ H'->bB X.K H' (Ow G W) d v->Q v H')->r vs H Q
def vY(X:Cx)(G:Gd)(H0:Hp)(r:ip->Hp->VK->Prop)(op:i0->Option i0):Prop :=
 ∀W env σ H vs ds rs (Q:VK),Ok X.K G H0 W env σ H->aI X.K H (Ow G W) ds vs->op ds=↑rs ->
  (∀l us H',Step W H (cS W l) H'->Ok X.K G H0 W env σ H'->Ok X.K G H0 (cS W l) env σ H'->¬W l->H' l=↑(.lst us)->aI X.K H' (Ow G (cS W l)) rs us->Q (.ref l) H')->r vs H Q
variable{r:ip->Hp->VK->Prop}
def BX(hd:xf X G H0 r op):∀σ H Q,tD X.K G H0 (e9 op F) σ H Q->qM r (kE X.K G H0 F) σ H Q:=λσ H Q U=>by
 obtain⟨W,env,d,env',ok,q,k⟩:=U;cases e1:F env with
 |none=>simp[e1] at q |some z =>
   obtain⟨ds,env1⟩:=z;cases e2:op ds with
   |none=>simp[e1,e2] at q |some d' =>
     have q:↑(d',env1)=↑(d,env'):=by simpa[e9,e1,e2] using q
     cases q;exact⟨W,env,ds,_,ok,e1,λW1 vs H1 V D p1=>hd W1 _ σ H1 vs ds _ Q D p1 e2 λv H2 s2 I p2=>k W1 v H2 (V.trans s2) I p2⟩
def IA{op:i0->Option i0}(hd:vY X G H0 r op):∀σ H Q,gO X.K G H0 (gq op F) σ H Q->qM r (kE X.K G H0 F) σ H Q:=λσ H Q Y=>by
 obtain⟨W,env,d,env',ok,q,k⟩:=Y;cases e1:F env with
 |none=>simp[e1] at q |some z =>
   obtain⟨ds,env1⟩:=z;cases e2:op ds with
   |none=>simp[e1,e2] at q |some d' =>
     have q:↑(d',env1)=↑(d,env'):=by simpa[gq,e1,e2] using q
     cases q;exact⟨W,env,ds,_,ok,e1,λW1 vs H1 Z I p1=>hd W1 _ σ H1 vs ds _ Q I p1 e2 λl us H2 s2 U V a b c=>k W1 l us H2 (Z.trans s2) U V a b c⟩
variable{id:String}
def qT(U:rq X (.builtin id) r)(hd:xf X G H0 r op)(V:Gl X x)(Y:X.mg x=none)(Z:bootBuiltins x=↑(.builtin id))(a:eM X G H0 (e::es) F)(b:x ≠ "__name__":=by decide)(D:(x==("__debug__" : Str))=false:=by decide)(c:‹starEach (e::es) X.env=(false,eval e X.env)::starEach es X.env›)(I:‹(backTo pos (starEach es X.env)).any (·.1)=false›):aT X G H0 (.Call (.Name x p') (e::es) [] pos) (e9 op F):=⟨(lL U V Y Z a.out b D c I).imp (BX hd)⟩
variable{T:String}
def BY(U:rq X (.type T) r)(hd:xf X G H0 r op)(V:Gl X x)(Y:X.mg x=none)(Z:bootBuiltins x=↑(.type T))(a:eM X G H0 (e::es) F)(b:x ≠ "__name__":=by decide)(D:(x==("__debug__" : Str))=false:=by decide)(c:‹starEach (e::es) X.env=(false,eval e X.env)::starEach es X.env›)(I:‹(backTo pos (starEach es X.env)).any (·.1)=false›):aT X G H0 (.Call (.Name x p') (e::es) [] pos) (e9 op F):=⟨(v7 U V Y Z a.out b D c I).imp (BX hd)⟩
variable{opF:i0->Option i0}
def IB(U:rq X (.type T) r)(hd:vY X G H0 r opF)(V:Gl X x)(Y:X.mg x=none)(Z:bootBuiltins x=↑(.type T))(a:eM X G H0 (e::es) F)(b:x ≠ "__name__":=by decide)(D:(x==("__debug__" : Str))=false:=by decide)(c:‹starEach (e::es) X.env=(false,eval e X.env)::starEach es X.env›)(I:‹(backTo pos (starEach es X.env)).any (·.1)=false›):f_ X G H0 (.Call (.Name x p') (e::es) [] pos) (gq opF F):=⟨(v7 U V Y Z a.out b D c I).imp (IA hd)⟩
def wd(h:aI K H O [d] vs):∃v,vs=[v]/\bB K H O d v:=by
 cases h with |cons r t=>cases t;exact⟨_,rfl,r⟩
def lU{d':D}(h:aI K H O [d,d'] vs):∃v I,vs=[v,I]/\bB K H O d v/\bB K H O d' I:=by
 cases h with |cons r t=>cases t with |cons r' t=>cases t;exact⟨_,_,rfl,r,r'⟩
@[simp] def hZ:i0->jj | [.tup ds]=>↑↥ds.length | [.lst ds]=>↑↥ds.length |_=>none
def IC:xf X G H0 (λxs H Q=>∃p ys,xs=[.ref p]/\(cY X.K H p ys\/dV X.K H p ys)/\Q ↥ys.length H) hZ:=by
 intro W env σ H vs ds d Q ok r e k;unfold hZ at e;split at e
 ·rename_i ds
  cases e;obtain⟨v,rfl,D⟩:=wd r;have r:=D;obtain⟨a,us,rfl,h,r⟩:=r.tup_;exact⟨a,us,rfl,.inr (dV.of h),by rw[<-r.length];exact k _ H Step.refl ok ↥_⟩
 ·rename_i ds
  cases e;obtain⟨v,rfl,D⟩:=wd r;have r:=D;obtain⟨a,us,rfl,h,r⟩:=r.lst_;exact⟨a,us,rfl,.inl h.sq,by rw[<-r.length];exact k _ H Step.refl ok ↥_⟩
 ·cases e
def BZ(I:eM X G H0 [e] F)(D:Bn X "len":=by walk_at "b")(U:‹starEach [e] X.env=(false,eval e X.env)::starEach [] X.env›):aT X G H0 (.Call (.Name "len" p') [e] [] pos) (e9 hZ F) :=
 qT BC IC D.g D.m PySem.boot_len I (by decide) (by decide) U rfl
@[simp] def iO:i0->jj | [↥i,↥j]=>↑↥(if j > i then j else i) |_=>none
@[simp] def jR:i0->jj | [↥i,↥j]=>↑↥(if j<i then j else i) |_=>none
def ID:xf X G H0 (λxs H Q=>∃i j,xs=[↥i,↥j]/\Q ↥(if j > i then j else i) H) iO:=by
 intro W env σ H vs ds d Q ok r e k;unfold iO at e;split at e
 ·cases e
  obtain⟨v,U,rfl,D,I⟩:=lU r;have r:=D;exact⟨_,_,by rw[r.int_,I.int_],k _ H Step.refl ok ↥_⟩
 ·cases e
def IE:xf X G H0 (λxs H Q=>∃i j,xs=[↥i,↥j]/\Q ↥(if j<i then j else i) H) jR:=by
 intro W env σ H vs ds d Q ok r e k;unfold jR at e;split at e
 ·cases e
  obtain⟨v,U,rfl,D,I⟩:=lU r;have r:=D;exact⟨_,_,by rw[r.int_,I.int_],k _ H Step.refl ok ↥_⟩
 ·cases e
def IF(U:eM X G H0 [a,b] F)(V:‹X.calm=true›)(I:Bn X "max":=by walk_at "b")(Y:‹starEach [a,b] X.env=(false,eval a X.env)::starEach [b] X.env›)(D:‹(backTo pos (starEach [b] X.env)).any (·.1)=false›):aT X G H0 (.Call (.Name "max" p') [a,b] [] pos) (e9 iO F) :=
 qT (GP V) ID I.g I.m boot_max U (by decide) (by decide) Y D
def IG(U:eM X G H0 [a,b] F)(V:‹X.calm=true›)(I:Bn X "min":=by walk_at "b")(Y:‹starEach [a,b] X.env=(false,eval a X.env)::starEach [b] X.env›)(D:‹(backTo pos (starEach [b] X.env)).any (·.1)=false›):aT X G H0 (.Call (.Name "min" p') [a,b] [] pos) (e9 jR F) :=
 qT (GQ V) IE I.g I.m boot_min U (by decide) (by decide) Y D
def cO:i0->Option g8
 | []=>↑[] | .int i::r=>(cO r).map (i::·)
 |_::_=>none
def nV:∀ {ds:i0} {ns:g8},cO ds=↑ns->ds=ns.map D.int
 | [],ns,h=>by cases h;rfl
 | .int i::r,ns,h=>by
   unfold cO at h;cases q:cO r with
   |none=>rw[q] at h;cases h
   |some ms=>rw[q] at h;cases h;rw[nV q];rfl
 | .str _::_,_,h=>by cases h
def vZ(ns:g8):cO (ns.map D.int)=↑ns:=by
 induction ns with
 |nil=>rfl |cons n r ih=>show(cO (r.map D.int)).map (n::·)=_;rw[ih];rfl
def nX{K:ic}{H:Hp}{O:Addr->Prop}:∀ {ns:g8} {vs:ip},aI K H O (ns.map D.int) vs->vs=ns.map V.int
 | [],_,h=>by cases h;rfl
 |n::r,_,h=>by cases h with |cons a t=>rw[nX t,a.int_];rfl
def B_(Z:X.calm=true):rq X (.builtin "sum") (λxs H Q=>∃p,∃ns:g8,xs=[.ref p]/\cY X.K H p (ns.map V.int)/\Q ↥ns.sum H):=by
 intro pins s σ H xs us Q I r h;obtain⟨p,ns,rfl,a,q⟩:=h;obtain⟨u,rfl,b⟩:=y9 r;cases b;obtain⟨its,c,pl,f⟩:=I.list a;have hi:IntsAre its ns:=B6 c;have U:=pl.isList;obtain⟨xs,D⟩:=hi.allInts.items;rw[D] at U;refine sum_intListG (I.ok.hd Z) U λh' tk t' d=>⟨.int ns.sum,H,I.kept d,⟨t',?_⟩,q⟩;have e:numsOf its=ns:=hi.numsOf;have Y:numsOf (intItems xs).toList=ns:=by rw[<-D];exact e
 rw[nums_intItems] at Y;rw[preSum_eq,jf ⋯,Y]
def gF:i0->jj | [.lst ds]=>(cO ds).map λns=>.int ns.sum |_=>none
def IH:xf X G H0 (λxs H Q=>∃p,∃ns:g8,xs=[.ref p]/\cY X.K H p (ns.map V.int)/\Q ↥ns.sum H) gF:=by
 intro W env σ H vs ds d Q ok r e k;unfold gF at e;split at e
 ·rename_i ds
  cases q:cO ds with
  |none=>rw[q] at e;cases e
  |some ns =>
    rw[q] at e;cases e;obtain⟨v,rfl,D⟩:=wd r;have r:=D;obtain⟨a,us,rfl,h,r⟩:=r.lst_;rw[nV q] at r;rw[nX r] at h;exact⟨a,ns,rfl,h.sq,k _ H Step.refl ok ↥_⟩
 ·cases e
def v_(I:eM X G H0 [e] F)(U:‹X.calm=true›)(D:Bn X "sum":=by walk_at "b")(V:‹starEach [e] X.env=(false,eval e X.env)::starEach [] X.env›):aT X G H0 (.Call (.Name "sum" p') [e] [] pos) (e9 gF F) :=
 qT (B_ U) IH D.g D.m boot_sum I (by decide) (by decide) V rfl
@[simp] def tf:i0->Option i0 | [.lst ds]=>↑ds | [.tup ds]=>↑ds |_=>none
def II:vY X G H0 (λxs H Q=>∃p ys,xs=[.ref p]/\(cY X.K H p ys\/dV X.K H p ys)/\∀l,H l=none->Q (.ref l) (a_ H l (.lst ys))) tf:=by
 intro W env σ H vs ds b Q ok r e k;unfold tf at e;split at e
 ·cases e
  obtain⟨v,rfl,D⟩:=wd r;have r:=D;obtain⟨a,us,rfl,h,r⟩:=r.lst_;refine⟨a,us,rfl,.inl h.sq,λl I=>?_⟩;obtain⟨h1,h2,U,V,Y,Z⟩:=yh ok r I;exact k l us _ h1 h2 U V Y Z
 ·cases e
  obtain⟨v,rfl,D⟩:=wd r;have r:=D;obtain⟨a,us,rfl,h,r⟩:=r.tup_;refine⟨a,us,rfl,.inr (dV.of h),λl I=>?_⟩;obtain⟨h1,h2,U,V,Y,Z⟩:=yh ok r I;exact k l us _ h1 h2 U V Y Z
 ·cases e
def Ca:bootBuiltins "list" = ↑(.type "list"):=by decide +kernel
def qU(I:eM X G H0 [e] F)(D:Bn X "list":=by walk_at "b")(U:‹starEach [e] X.env=(false,eval e X.env)::starEach [] X.env›):f_ X G H0 (.Call (.Name "list" p') [e] [] pos) (gq tf F) :=
 IB Hz II D.g D.m Ca I (by decide) (by decide) U rfl
def aO.of:∀ {xs:ip} {us:gu},xs.length=us.length->(∀(j:Nat) (x:V) (u:Value),xs[j]?=↑x->us[j]?=↑u->RelV x u)->aO xs us
 | [],[],_,_=>.nil |x::xs,u::us,h,r=>.cons (r 0 x u rfl rfl) (aO.of (lx h) λj y w D I=>r (j+1) y w (by simpa using D) (by simpa using I))
def IJ(ta:TA):TE:=λσ H Q=>ta σ H λvs H1=>∃i j:Int,vs=[↥i,↥j]/\∀r,H1 r=none->Q (.ref r) (a_ H1 r (.rng i j))
def IK{ta:TA}(U:Bn X "range")(Y:PA X [a,b] ta)(Z:‹starEach [a,b] X.env=[(false,eval a X.env),(false,eval b X.env)]›)(D:‹starEach [b] X.env=[(false,eval b X.env)]›) :
  PE X (.Call (.Name "range" p') [a,b] [] pos) (IJ ta):=by
 intro pins s σ H Q I h;refine Call_ (wg I U.g U.m boot_range (f6 (bI (Y pos pins s σ H _ I h) λus c d=>?_) (by rw[Z,D]) (by rw[D];rfl)));obtain⟨vs,H1,V,f,k⟩:=d;obtain⟨i,j,e,q⟩:=k;subst e;obtain⟨u,l,rfl,⟨t,rfl⟩,t',rfl⟩:=lK f;refine call_range_2 ?_;exact⟨.ref c.heap.objs.size,_,V.laid (o:=.rng i j) (λb n q=>av _ q) (b6 _) (show bR X.prog X.w _ _ _ (.rng i j) from⟨_,_,_,cj _ rfl⟩),rfl,q _ (V.hok.fresh (b6 _))⟩
def eE(lo hi:Int):g8:=(List.range (hi-lo).toNat).map λ(k:Nat)=>lo+(k:Int)
def wh(lo hi:Int):(eE lo hi).length=(hi-lo).toNat:=by simp[eE]
theorem IL(b:X.calm=true):rq X (.type "list") (λxs H Q=>∃r lo hi,xs=[.ref r]/\H r=↑(.rng lo hi)/\(-(2 ^ 62)<=lo/\lo<2 ^ 62/\-(2 ^ 62)<=hi/\hi<2 ^ 62)/\(hi-lo).toNat<=2 ^ 20 /\
  ∀l,H l=none->Q (.ref l) (a_ H l (.lst ((eE lo hi).map V.int)))):=by
 intro pins s σ H xs us Q I r h;obtain⟨p,lo,hi,rfl,c,⟨d,e,b3,f⟩,a,q⟩:=h;obtain⟨u,rfl,g⟩:=y9 r;cases g;obtain⟨t,u,v,i⟩:=(show bR X.prog X.w H s.heap p (.rng lo hi) from I.hok p _ c);refine call_list_range (n:=(hi-lo).toNat) (I.ok.hd b) (show IsRange s.heap p lo hi 1 t u v from i) (small_one d e b3 f) (by rw[rangeSize_one];split <;> lia) (cy a (by decide)) λh' tk D m o y U=>?_;have z:aO ((eE lo hi).map V.int) D.toList:=by
  obtain⟨A,B⟩:=U;refine aO.of (by rw[ai,wh,qp,A]) λj x u Y C=>?_;obtain⟨t,rfl⟩:=B j u (by simpa using C);rw[bj,eE,bj] at Y;cases q:(List.range (hi-lo).toNat)[j]? with
  |none=>rw[q] at Y;cases Y
  |some k =>
    rw[q] at Y;have Z:k=j:=by
     rw[i8] at q
     ·exact(b9 q).symm
     ·have:=(am.mp q).1;simpa using this
    cases Y;exact⟨t,by rw[Z,Int.mul_one]⟩
 exact⟨.ref s.heap.objs.size,_,I.laid o (b6 _) (show bR X.prog X.w _ h' _ (.lst _) from⟨by rw[ai,wh];exact cy a (by rw[ie];decide),D.toList,m,z,y⟩),rfl,q _ (I.hok.fresh (b6 _))⟩
def lV(ds:i0):Option i0:=match ds with
 | [↥i,↥j]=>if gA (-(2 ^ 20)) (2 ^ 20+1) i/\gA (-(2 ^ 62)) (2 ^ 62) j/\gA (-(2 ^ 63)) (2 ^ 20+1) (j-i) then ↑((eE i j).map D.int) else none
 |_=>none
def qV{K:ic}{H:Hp}{O:Addr->Prop}:∀(ns:g8),aI K H O (ns.map D.int) (ns.map V.int)
 | []=>.nil |n::r=>.cons ↥n (qV r)
variable{lo:Int}
def IM{hi:Int}(ok:Ok X.K G H0 W env σ H)(Z:(-(2 ^ 62)<=lo/\lo<2 ^ 62/\-(2 ^ 62)<=hi/\hi<2 ^ 62))(a:(hi-lo).toNat<=2 ^ 20)(k:∀l us H',Step W H (cS W l) H'->Ok X.K G H0 W env σ H'->Ok X.K G H0 (cS W l) env σ H'->¬W l->H' l=↑(.lst us)->aI X.K H' (Ow G (cS W l)) ((eE lo hi).map D.int) us->Q (.ref l) H')(r:Addr)(b:H r=none):∃Y I U,[V.ref r]=[.ref Y]/\(a_ H r (.rng lo hi)) Y=↑(.rng I U)/\(-(2 ^ 62)<=I/\I<2 ^ 62/\-(2 ^ 62)<=U/\U<2 ^ 62)/\(U-I).toNat<=2 ^ 20 /\
   ∀l,a_ H r (.rng lo hi) l=none->Q (.ref l) (a_ (a_ H r (.rng lo hi)) l (.lst ((eE I U).map V.int))):=by
 refine⟨r,lo,hi,rfl,og,Z,a,λl c=>?_⟩;have sm:bG H (a_ H r (.rng lo hi)):=zr b;obtain⟨h1,h2,d,e,f,g⟩:=yh (ok.same sm) (qV (eE lo hi)) c;exact k l _ _ ((Step.same sm).trans h1) h2 d e f g
variable{p1 pos1:Pos}
theorem IN(f:eM X G H0 [a,b] F)(h:‹X.calm=true›)(c:Bn X "list":=by walk_at "b")(I:Bn X "range":=by walk_at "b")(n:‹starEach [a,b] X.env=[(false,eval a X.env),(false,eval b X.env)]›)(U:‹starEach [b] X.env=[(false,eval b X.env)]›)(e:‹starEach [.Call (.Name "range" p1) [a,b] [] pos1] X.env=(false,eval (.Call (.Name "range" p1) [a,b] [] pos1) X.env)::starEach [] X.env›) :
  f_ X G H0 (.Call (.Name "list" p') [.Call (.Name "range" p1) [a,b] [] pos1] [] pos) (gq lV F) :=
 ⟨(v7 (IL h) c.g c.m Ca (oy (IK I f.out n U) qt e) (by decide) (by decide) e rfl).imp λσ H Q o=>by
  obtain⟨W,env,d,env',ok,q,k⟩:=o;cases e1:F env with
  |none=>simp[e1] at q |some z =>
    obtain⟨ds,env1⟩:=z;cases e2:lV ds with
    |none=>simp[e1,e2] at q |some d' =>
      have q:↑(d',env1)=↑(d,env'):=by simpa[gq,e1,e2] using q
      cases q;refine⟨W,env,ds,_,ok,e1,λW1 vs H1 p V p1=>?_⟩;unfold lV at e2;split at e2
      ·rename_i i j
       split at e2
       ·rename_i D
        cases e2;obtain⟨v,A,rfl,s,t⟩:=lU p1;cases s;cases t;exact⟨i,j,rfl,λr u=>IM V ⟨by have:=D.1.1;lia,by have:=D.1.2;lia,D.2.1.1,D.2.1.2⟩ (by have:=D.2.2.2;lia) (λl us H2 s2 Y Z w x y=>k W1 l us H2 (p.trans s2) Y Z w x y) r u⟩
       ·cases e2
      ·cases e2⟩
abbrev FO:=aQ->Option (h8×aQ)
def IP(K:ic)(G:Gd)(H0:Hp)(f:FO):TO:=λσ H Q=>DP K G H0 f (λW env o env'=> ∀W' H',Step W H W' H'->Ok K G H0 W' env' σ H'->Q o H') σ H
structure qW (X:Cx) (G:Gd) (H0:Hp) (e:Option Expr) (f:FO):Prop where
 out:PO X e (IP X.K G H0 f)
variable{t':TI}
def PO.imp{e:Option Expr}{t t':TO}(h:PO X e t)(i:∀σ H Q,t' σ H Q->t σ H Q):PO X e t':=λpins s σ H Q I q=>h pins s σ H Q I (i σ H Q q)
@[simp] def gP:FO:=λe=>↑(none,e)
@[simp] def gB(f:FE):FO:=λe=>(f e).bind λr=>match r.1 with | .int i=>↑(↑i,r.2) |_=>none
def yk  : qW X G H0 none gP:=⟨Hl.imp λσ H Q ⟨W,env,o,env',ok,q,k⟩=>by cases q;exact k W H Step.refl ok⟩
def wn(h:aT X G H0 e f):qW X G H0 ↑e (gB f):=⟨(Hm h.out).imp λσ H Q I=>by
 obtain⟨W,env,o,env',ok,q,k⟩:=I;cases e1:f env with
 |none=>simp[e1] at q |some r =>
   obtain⟨d,env1⟩:=r;cases d with
   |int i =>
     have q:↑(↑i,env1)=↑(o,env'):=by simpa[gB,e1] using q
     cases q;exact⟨W,env,_,_,ok,e1,λW1 v1 H1 U D p1=>⟨i,p1.int_,k W1 H1 U D⟩⟩
   |_=>simp[e1] at q⟩
def cutD(xs:i0)(lo hi:h8):i0:=(xs.drop (HT.sIx xs.length 0 lo)).take (HT.sIx xs.length xs.length hi-HT.sIx xs.length 0 lo)
def aI.cut(r:aI K H O ds vs)(lo hi:h8):aI K H O (cutD ds lo hi) (hV vs lo hi):=by
 unfold cutD hV;rw[r.length];exact(r.drop _).take _
@[simp] def gG(f:FE)(l h:FO):FA:=λe=>(f e).bind λr=>(l r.2).bind λD=>(h D.2).bind λI=>match r.1 with | .lst ds=>↑(cutD ds D.1 I.1,I.2) |_=>none
def xb{lo hi:Option Expr}{fl V:FO}{sp:Pos}(g:aT X G H0 a f)(i:qW X G H0 lo fl)(j:qW X G H0 hi V) :
  f_ X G H0 (.Subscript a (.Slice lo hi none sp) pos) (gG f fl V):=⟨(Ho Hy g.out i.out j.out).imp λσ H Q m=>by
 obtain⟨W,env,d,env',ok,q,k⟩:=m;cases e1:f env with
 |none=>simp[e1] at q |some r =>
   obtain⟨n,env1⟩:=r;cases e2:fl env1 with
   |none=>simp[e1,e2] at q |some r2 =>
     obtain⟨b,D⟩:=r2;cases e3:V D with
     |none=>simp[e1,e2,e3] at q |some r3 =>
       obtain⟨c,I⟩:=r3;cases n with
       |lst ds =>
         have q:↑(cutD ds b c,I)=↑(d,env'):=by simpa[gG,e1,e2,e3] using q
         cases q;refine⟨W,env,_,_,ok,e1,λW1 v1 H1 o U p1=>⟨W1,env1,_,_,U,e2,λp H2 s2 Y=>⟨p,D,_,_,Y,e3,λs z e Z=>?_⟩⟩⟩;obtain⟨l,us,rfl,h,r⟩:=(U.rep (s2.trans e) p1).lst_;refine⟨l,us,rfl,h.sq,λt u=>?_⟩;obtain⟨h1,h2,v,w,x,y⟩:=yh Z (r.cut b c) u;exact k s t _ _ (((o.trans s2).trans e).trans h1) h2 v w x y
       |_=>simp[e1,e2,e3] at q⟩
def IQ(K:ic):R2:=λx y H Q=>∃l b xs D,x=.ref l/\y=.ref b/\cY K H l xs/\cY K H b D/\xs.length+D.length<=sizeLine/\∀p,H p=none->Q (.ref p) (a_ H p (.lst (xs++D)))
theorem IR:fN X (binaryOp .Add) (IQ X.K):=by
 intro pins s σ H x y v u Q I g i h;obtain⟨l,b,xs,w,rfl,rfl,j,k,A,q⟩:=h;cases g;cases i;obtain⟨its,r,⟨⟨cls,dd,data,sl⟩,n,d,m,Y,hd⟩,z⟩:=I.list j;obtain⟨D,e,⟨⟨f,o,data2,Z⟩,p,U,a,V,c⟩,B⟩:=I.list k;subst m hd a c Y V;have C:=r.length;have t:=e.length;refine concat_meets ⟨_,d,rfl⟩ ⟨_,U,rfl⟩ noFill_list_add seq_list_add PySem.F.slot_list_add PySem.F.entry_list_add (PySem.F.args_list_add_2 _ _) (list_addW l b its.toArray D.toArray n p none none sl Z (by simp;lia)) ⟨d,U,?_⟩;have ea:its.toArray++D.toArray=(its++D).toArray:=by simp
 rw[ea];exact⟨.ref _,_,I.lnew (t':=s.toks) (r.append e) (by rw[ak];lia),rfl,q _ I.fresh⟩
@[simp] def cW(f g:FE):FA:=λe=>(f e).bind λr=>(g r.2).bind λq=>match r.1,q.1 with | .lst ds,.lst es=>if cE (ds.length+es.length) then ↑(ds++es,q.2) else none |_,_=>none
def rc(c:aT X G H0 a f)(e:aT X G H0 b g):f_ X G H0 (.BinOp a .Add b pos) (cW f g):=⟨(qH IR c.out e.out).imp λσ H Q i=>by
 obtain⟨W,env,d,env',ok,q,k⟩:=i;cases e1:f env with
 |none=>simp[e1] at q |some r =>
   obtain⟨j,env1⟩:=r;cases e2:g env1 with
   |none=>simp[e1,e2] at q |some r2 =>
     obtain⟨m,D⟩:=r2;cases j with
     |lst ds =>
       cases m with
       |lst es =>
         by_cases U:cE (ds.length+es.length)
         ·have q:↑(ds++es,D)=↑(d,env'):=by simpa only[cW,e1,e2,ae,ax U] using q
          cases q;refine⟨W,env,_,_,ok,e1,λW1 v1 H1 o I p1=>⟨W1,env1,_,_,I,e2,λp v2 H2 s2 V p2=>?_⟩⟩;obtain⟨l,us,rfl,h,r⟩:=(I.rep s2 p1).lst_;obtain⟨s,Y,rfl,h',Z⟩:=p2.lst_;refine⟨l,s,us,Y,rfl,rfl,h.sq,h'.sq,?_,λn t=>?_⟩
          ·rw[<-r.length,<-Z.length];exact cy U (by rw[ie];decide)
          ·obtain⟨h1,h2,u,v,w,x⟩:=yh V (r.append Z) t
           exact k p n _ _ ((o.trans s2).trans h1) h2 u v w x
         ·simp only[cW,e1,e2,ae,cb U] at q;cases q
       |_=>simp[e1,e2] at q
     |_=>simp[e1,e2] at q⟩
@[simp] def ir(i:Nat):FE:=λe=>match e[i]? with
 |some ↑(.ow ds)=>↑(.int ds.length,e) |some ⇑(.lst ds)=>↑(.int ds.length,e) |some ⇑(.tup ds)=>↑(.int ds.length,e) |_=>none
def kg(an:cA Nn Cn X)(V:Bn X "len":=by walk_at "b")(U:‹Nn[i]?=↑x›)(Y:‹starEach [.Name x p1] X.env=(false,eval (.Name x p1) X.env)::starEach [] X.env›):aT X G H0 (.Call (.Name "len" p') [.Name x p1] [] pos) (ir i) :=
 ⟨(lL BC V.g V.m PySem.boot_len (oy ((an.a U).pe) qt Y) (by decide) (by decide) Y rfl).imp λσ H Q Z=>by
  obtain⟨W,env,d,env',ok,q,k⟩:=Z;unfold ir at q;split at q
  ·rename_i ds D
   cases q;obtain⟨v,I,l,vs,rfl,c,b,r⟩:=ok.slot i _ D;exact⟨_,I,l,vs,rfl,.inl (.inl (.inl b)),by rw[<-r.length];exact k W _ H Step.refl ok ↥_⟩
  ·rename_i ds D
   cases q;obtain⟨v,I,r⟩:=ok.slot i _ D;obtain⟨l,us,rfl,h,r⟩:=bB.lst_ r;exact⟨_,I,l,us,rfl,.inl h.sq,by rw[<-r.length];exact k W _ H Step.refl ok ↥_⟩
  ·rename_i ds D
   cases q;obtain⟨v,I,r⟩:=ok.slot i _ D;obtain⟨l,us,rfl,h,r⟩:=bB.tup_ r;exact⟨_,I,l,us,rfl,.inr (dV.of h),by rw[<-r.length];exact k W _ H Step.refl ok ↥_⟩
  ·cases q⟩
@[simp] def cP:D->Option j0->jj
 | .int k,↑↑(.ow ds)=>bJ ds k | .int k,↑⇑(.lst ds)=>bJ ds k | .int k,↑⇑(.tup ds)=>bJ ds k |_,_=>none
@[simp] def aH(i:Nat)(g:FE):FE:=λe=>match e[i]? with
 |some ↑_=>(g e).bind λr=>(cP r.1 r.2[i]?).map λd=>(d,r.2)
 |_=>none
def gw(n:aT X G H0 b g)(an:cA Nn Cn X)(o:lM b:=by intro _ _;rfl)(c:‹Nn[i]?=↑x›):aT X G H0 (.Subscript (.Name x p1) b pos) (aH i g) :=
 ⟨(qN vA ((an.a c).pe) n.out o).imp λσ H Q p=>by
  obtain⟨W,env,d,env',ok,q,k⟩:=p;unfold aH at q;split at q;case h_2=>cases q
  rename_i t e;obtain⟨v,Z,_⟩:=ok.slot i _ e;cases e1:g env with
  |none=>rw[e1] at q;cases q
  |some r =>
    obtain⟨j,env1⟩:=r;rw[e1,ae] at q;cases e3:cP j env1[i]? with
    |none=>rw[e3] at q;cases q
    |some d' =>
      rw[e3] at q;cases q;refine⟨v,Z,W,env,j,_,ok,e1,λW1 v1 H1 f D p1=>?_⟩;unfold cP at e3;split at e3
      ·rename_i kk ds U
       obtain⟨m,I,l,vs,rfl,w,s,r⟩:=D.slot i _ U;rw[Z] at I;cases I;obtain⟨u,V,Y⟩:=lR r e3;exact .inl ⟨l,vs,kk,u,rfl,p1.int_,.inl (.inl s),V,k W1 _ H1 f D Y⟩
      ·rename_i kk ds U
       obtain⟨m,I,r⟩:=D.slot i _ U;rw[Z] at I;cases I;obtain⟨l,us,rfl,h,r⟩:=bB.lst_ r;obtain⟨u,V,Y⟩:=lR r e3;exact .inl ⟨l,us,kk,u,rfl,p1.int_,h.sq,V,k W1 _ H1 f D Y⟩
      ·rename_i kk ds U
       obtain⟨m,I,r⟩:=D.slot i _ U;rw[Z] at I;cases I;obtain⟨l,us,rfl,h,r⟩:=bB.tup_ r;obtain⟨u,V,Y⟩:=lR r e3;exact .inr (.inl ⟨l,us,kk,u,rfl,p1.int_,dV.of h,V,k W1 _ H1 f D Y⟩)
      ·cases e3⟩
@[simp] def jS:D->String | .non=>"NoneType" | .bl _=>"bool" | .int _=>"int" | .str _=>"str" | .tup _=>"tuple" | .lst _=>"list" | .dct _ _=>"dict" | .exc _=>"exc"
@[simp] def h_(t T:String):Bool:=t==T || (t=="bool" && T=="int")
def w5(T:String):Bool:=T=="int" || T=="bool" || T=="str" || T=="tuple" || T=="list"
def IS(K:ic)(d:D)(T:String)(h:w5 T=true)(hd:∀a,d≠.exc a):PySem.W.kitOne K (.type (jS d)) (.type T)=↑(h_ (jS d) T):=by
 simp only[w5,Bool.or_eq_true,l8] at h;rcases h with(((rfl |rfl) |rfl) |rfl) |rfl <;> cases d <;> first |rfl |exact absurd rfl (hd _)
def Cb:rq X (.builtin "isinstance") (λxs H Q=>∃x T t b,xs=[x,.ty T]/\(eY X.K H x t\/(t=.type "list"/\∃a us,x=.ref a/\cY X.K H a us))/\PySem.W.kitOne X.K t (.type T)=↑b/\Q (.bl b) H):=by
 intro pins s σ H xs us Q I r h;obtain⟨x,T,t,b,rfl,ty,e,q⟩:=h;obtain⟨u,U,rfl,D,rt⟩:=lK r;cases (show U=Value.type T from rt);rcases ty with ty | ⟨rfl,a,ws,rfl,hq⟩
 ·exact Ha I D ty e λtk=>⟨.bl b,H,I.tok tk,rfl,q⟩
 ·cases (show u=Value.ref a from D)
  obtain⟨its,_,⟨o,n,h1,h2,_⟩,_⟩:=I.list hq;exact fu tz I.kIn ⟨o,h1,h2⟩ e (λz=>nomatch z) λtk=>⟨.bl b,H,I.tok tk,rfl,q⟩
def IT(r:bB K H O d v)(hd:∀a,d≠.exc a):eY K H v (.type (jS d))\/(Value.type (jS d)=.type "list"/\∃a us,v=.ref a/\cY K H a us):=by
 cases r with
 |non=>exact .inl .non |bl b=>exact .inl (.bl b) |int i=>exact .inl ↥i
 |str s=>exact .inl (.str s) |tup h _=>exact .inl (.tup h) |lst o h _=>exact .inr ⟨rfl,_,_,rfl,.inl h⟩ |klst h _=>exact .inr ⟨rfl,_,_,rfl,.inr h⟩ |dct h _=>exact .inl (.dK h) |exc a=>exact absurd rfl (hd a)
def w6:bootBuiltins "isinstance" = ↑(.builtin "isinstance"):=by decide +kernel
@[simp] def eN(T:String)(f:FE):FE:=λe=>(f e).bind λr=>match r.1 with | .exc _=>none |d=>↑(.bl (h_ (jS d) T),r.2)
structure Ty (x:Str) (T:String):Prop where
 b:bootBuiltins x=↑(.type T)
 k:w5 T=true
 d:(x==("__debug__" : Str))=false
 n:x ≠ "__name__"
def uf(ty:Ty x T)(e:aT X G H0 a f)(Z:Bn X "isinstance":=by walk_at "b")(D:Gl X x:=by walk_at "g")(I:X.mg x=none:=by assumption)(c:‹starEach [a,.Name x p1] X.env=(false,eval a X.env)::starEach [.Name x p1] X.env›)(U:‹starEach [.Name x p1] X.env=(false,eval (.Name x p1) X.env)::starEach [] X.env›)(V:‹(backTo pos (starEach [.Name x p1] X.env)).any (·.1)=false›) :
  aT X G H0 (.Call (.Name "isinstance" p') [a,.Name x p1] [] pos) (eN T f) :=
 ⟨(lL Cb Z.g Z.m w6 (oy e.out (oy (uK (v:=.ty T) D I ty.b rfl ty.n ty.d) qt U) c) (by decide) (by decide) c V).imp λσ H Q h=>by
  obtain⟨W,env,d,env',ok,q,k⟩:=h;cases e1:f env with
  |none=>simp[e1] at q |some r =>
    unfold eN at q;rw[e1,ae] at q;split at q
    ·cases q
    ·rename_i hd
     cases q;exact⟨W,env,_,_,ok,e1,λW1 v1 H1 i Y p1=>⟨v1,T,_,_,rfl,IT p1 hd,IS X.K _ T ty.k hd,k W1 _ H1 i Y (.bl _)⟩⟩⟩
abbrev FI:=aQ->Option (i0×aQ)
structure Walk (K:ic) (G:Gd) (J:It) (W:Addr->Prop) (H:Hp) (ds:i0):Prop where
 go:∀W' H' (i:Nat) d,Step W H W' H'->ds[i]?=↑d->J.go i H'/\∀x H'',J.yld i H' x H''->H''=H'/\bB K H' (Ow G W') d x
 stop:∀W' H',Step W H W' H'->J.stop ds.length H'
def wA(K:ic)(G:Gd)(H0:Hp)(f:FI):TI:=λσ H R=>DP K G H0 f (λW env ds env' =>
 ∀W' J H',Step W H W' H'->Ok K G H0 W' env' σ H'->Walk K G J W' H' ds->R J H') σ H
structure qX (Cm:Cx->Prop) (X:Cx) (G:Gd) (H0:Hp) (tg:Expr) (e:Expr) (f:FI):Prop where
 out:jA Cm X tg e (wA X.K G H0 f)
abbrev iA:=qX λX=>X.calm=true
def PI.imp(h:PI X tg e t)(i:∀σ H Q,t' σ H Q->t σ H Q):PI X tg e t':=λpins s σ H Q I q=>h pins s σ H Q I (i σ H Q q)
def jA.imp(h:jA Cm X tg e t)(i:∀σ H Q,t' σ H Q->t σ H Q):jA Cm X tg e t':=λpins s σ H Q I q=>h pins s σ H Q I (i σ H Q q)
def Cc{a:Addr}(ok:Ok X.K G H0 W env σ H)(h:fU X.K H (Ow G W) a vs)(r:aI X.K H (Ow G W) ds vs):Walk X.K G (uT X.K a) W H ds where
 go:=λW' H' i d st e=>by
  obtain⟨v,D,I⟩:=(ok.reps st r).get e;have h':=(ok.lsstep st h).sq;exact⟨⟨vs,v,h',D⟩,λx H'' ⟨e2,y⟩=>⟨e2,by have:=y vs h';rw[D] at this;cases this;exact I⟩⟩
 stop:=λW' H' st=>⟨vs,(ok.lsstep st h).sq,by rw[r.length];exact b6 _⟩
def IU{a:Addr}(ok:Ok X.K G H0 W env σ H)(h:H a=↑(.tup vs))(r:aI X.K H (Ow G W) ds vs):Walk X.K G (uU X.K a) W H ds where
 go:=λW' H' i d st e=>by
  obtain⟨v,D,I⟩:=(ok.reps st r).get e;have h':=ok.tstep st a vs h;exact⟨⟨vs,v,dV.of h',D⟩,λx H'' ⟨e2,y⟩=>⟨e2,by have:=y vs (dV.of h');rw[D] at this;cases this;exact I⟩⟩
 stop:=λW' H' st=>⟨vs,dV.of (ok.tstep st a vs h),by rw[r.length];exact b6 _⟩
def Cd:Walk X.K G (jJ lo n) W H ((List.range n).map λ(k:Nat)=>D.int (lo+(k:Int))) where
 go:=λW' H' i d st e=>by
  rw[bj] at e;have hi:i<n:=by
   have:=(am.mp (show((List.range n).map λ(k:Nat)=>D.int (lo+(k:Int)))[i]?=↑d by rw[bj];exact e)).1;simpa using this
  rw[i8 hi] at e;cases e;exact⟨hi,λx H'' ⟨e2,y⟩=>⟨e2,by rw[y];exact .int _⟩⟩
 stop:=λW' H' st=>by rw[ai,jm];exact b6 _
@[simp] def cX(f:FE):FI:=λe=>(f e).bind λr=>match r.1 with | .lst ds=>↑(ds,r.2) | .tup ds=>↑(ds,r.2) |_=>none
def PI.or(h:PI X tg e t)(h':PI X tg e t'):PI X tg e (λσ H R=>t σ H R\/t' σ H R):=λpins s σ H R I q=>q.elim (h pins s σ H R I) (h' pins s σ H R I)
def l6(h:aT X G H0 e f):iA X G H0 tg e (cX f):=⟨((uW h.out).or (G6 h.out)).imp λσ H R U=>by
 obtain⟨W,env,ds,env',ok,q,k⟩:=U;cases e1:f env with
 |none=>simp[e1] at q |some r =>
   obtain⟨d,env1⟩:=r;cases d with
   |lst ds' =>
     have q:↑(ds',env1)=↑(ds,env'):=by simpa[cX,e1] using q
     cases q;refine .inl ⟨W,env,_,_,ok,e1,λW1 v1 H1 I D p1=>?_⟩;obtain⟨a,vs,rfl,h.out,r⟩:=p1.lst_;exact⟨a,rfl,⟨vs,h.out.sq⟩,k W1 _ H1 I D (Cc D h.out r)⟩
   |tup ds' =>
     have q:↑(ds',env1)=↑(ds,env'):=by simpa[cX,e1] using q
     cases q;refine .inr ⟨W,env,_,_,ok,e1,λW1 v1 H1 I D p1=>?_⟩;obtain⟨a,vs,rfl,h.out,r⟩:=p1.tup_;exact⟨a,rfl,⟨vs,dV.of h.out⟩,k W1 _ H1 I D (IU D h.out r)⟩
   |_=>simp[e1] at q⟩
def bL(lo:Int)(n:Nat):i0:=(List.range n).map λ(k:Nat)=>D.int (lo+(k:Int))
def eV(ds:i0):Option i0:=match ds with | [↥j]=>if gA (-(2 ^ 62)) (2 ^ 62) j then ↑(bL 0 j.toNat) else none |_=>none
def lX(ds:i0):Option i0:=match ds with | [↥i,↥j]=>if gA (-(2 ^ 62)) (2 ^ 62) i/\gA (-(2 ^ 62)) (2 ^ 62) j then ↑(bL i (j-i).toNat) else none |_=>none
def Ce(hT:∀(it:Addr) (lo:Int) (n:Nat),za Cm X.prog X.w X.K tg (jJ lo n) [it] it (λi h=>IsRangeIter h it (lo+(i:Nat)*1) ((n:Int)-(i:Nat)) 1))(V:eM X G H0 [a] F)(I:Bn X "range":=by walk_at "b")(Y:‹starEach [a] X.env=[(false,eval a X.env)]›):qX Cm X G H0 tg (.Call (.Name "range" p') [a] [] pos) (gq eV F) :=
 ⟨jA.imp (G9 hT I.g I.m V.out Y) λσ H R Z=>by
  obtain⟨W,env,ds,env',ok,q,k⟩:=Z;cases e1:F env with
  |none=>simp[e1] at q |some z =>
    obtain⟨as,env1⟩:=z;cases e2:eV as with
    |none=>simp[e1,e2] at q |some d' =>
      have q:↑(d',env1)=↑(ds,env'):=by simpa[gq,e1,e2] using q
      cases q;refine⟨W,env,as,_,ok,e1,λW1 vs H1 b D p1=>?_⟩;unfold eV at e2;split at e2
      ·rename_i j
       split at e2
       ·rename_i U
        cases e2;obtain⟨v,rfl,c⟩:=wd p1;cases c;exact⟨j,rfl,U.1,U.2,k W1 _ H1 b D Cd⟩
       ·cases e2
      ·cases e2⟩
def rg(D:eM X G H0 [a] F)(I:Bn X "range":=by walk_at "b")(U:‹starEach [a] X.env=[(false,eval a X.env)]›):iA X G H0 tg (.Call (.Name "range" p') [a] [] pos) (gq eV F):=Ce (λit lo n=>nD it lo n) D I U
def IV(Y:eM X G H0 [a,b] F)(V:Bn X "range":=by walk_at "b")(Z:‹starEach [a,b] X.env=[(false,eval a X.env),(false,eval b X.env)]›)(I:‹starEach [b] X.env=[(false,eval b X.env)]›) :
  iA X G H0 tg (.Call (.Name "range" p') [a,b] [] pos) (gq lX F) :=
 ⟨(GA V.g V.m Y.out Z I).imp λσ H R c=>by
  obtain⟨W,env,ds,env',ok,q,k⟩:=c;cases e1:F env with
  |none=>simp[e1] at q |some z =>
    obtain⟨as,env1⟩:=z;cases e2:lX as with
    |none=>simp[e1,e2] at q |some d' =>
      have q:↑(d',env1)=↑(ds,env'):=by simpa[gq,e1,e2] using q
      cases q;refine⟨W,env,as,_,ok,e1,λW1 vs H1 d U p1=>?_⟩;unfold lX at e2;split at e2
      ·rename_i i j
       split at e2
       ·rename_i D
        cases e2;obtain⟨v,h,rfl,e,f⟩:=lU p1;cases e;cases f;exact⟨i,j,rfl,⟨D.1.1,D.1.2,D.2.1,D.2.2⟩,k W1 _ H1 d U Cd⟩
       ·cases e2
      ·cases e2⟩
def dX:j0->j0 |some (.sh d)=>⇑d |_=>none
def qy(tt:FT)(te:FE)(base:aQ):i0->Option i0
 | []=>↑[] |d::r=>(tt (⇑d::base)).bind λb=>if b.1=true then(te b.2).bind λv=>(qy tt te base r).map (v.1::·) else qy tt te base r
def j7(fi:FI)(ix:g7)(tt:FT)(te:FE):FA:=λe=>(fi e).bind λr=>if cE r.1.length then(qy tt te (ix.map λj=>dX (r.2.getD j none)) r.1).map λds=>(ds,r.2) else none
@[simp] def cG:FT:=λe=>↑(true,e)
def gH(K:ic)(f:FT):TT:=λσ H Q=>∃G H0,qQ K G H0 f σ H Q
def kR(K:ic)(f:FE):TE:=λσ H Q=>∃G H0,tD K G H0 f σ H Q
def c_:Addr->Prop:=λ_=>False
variable{cap:j0->j0}
def wB{pre:aQ}{σp:St}(ok:Ok X.K G H0 W env σ H)(b:∀a,H a=none->G' a)(U:pre.length=σp.length)(c:∀(i:Nat) (s:Sl),pre[i]?=↑↑s->∃d u,s=.sh d/\σp[i]?=↑↑u/\bB X.K H (Ow G' c_) d u)(f:∀(Y s:Sl) (u:V),cap ↑Y=↑s->dQ X.K G W H Y u->∃d,s=.sh d/\bB X.K H (Ow G' c_) d u)(Z:cap none=none) :
  Ok X.K G' H c_ (pre++ix.map λj=>cap (env.getD j none)) (σp++ix.map λj=>σ.getD j none) H:=by
 have D:∀(i:Nat) (s:Sl),(pre++ix.map λj=>cap (env.getD j none))[i]?=↑↑s->∃d u,s=.sh d/\(σp++ix.map λj=>σ.getD j none)[i]?=↑↑u/\bB X.K H (Ow G' c_) d u:=λi s z=>by
  by_cases hi:i<pre.length
  ·rw[bg hi] at z
   rw[bg (U ▸ hi)];exact c i s z
  ·have hi:=ja hi
   rw[cw hi,bj] at z;rw[cw (U ▸ hi),<-U,bj];obtain⟨j,q,z⟩:=fb.mp z;rw[q,aw] at *;cases q2:env[j]? with
   |none=>rw[q2] at z;exact absurd (Z.symm.trans z) nofun |some o =>
     rw[q2] at z;cases o with
     |none=>exact absurd (Z.symm.trans z) nofun |some Y =>
       obtain⟨u,I,r⟩:=ok.slot j _ q2;obtain⟨d,g,r⟩:=f Y s u z r;exact⟨d,u,g,by rw[aj,aw,I];rfl,r⟩
 refine⟨bG.refl _,b,λl z=>z.elim,λi s e=>?_,λi j h s2 v1 v2 a I _ _ _ o _=>by obtain⟨d',_,rfl,_⟩:=D i h I;exact o.elim,by simp[U]⟩;obtain⟨d,u,rfl,I,r⟩:=D i s e;exact⟨u,I,r⟩
def Cf(U:∀ {d:D} {v:V},bB X.K H (Ow G W) d v->bB X.K H (Ow G' c_) d v):∀(I s:Sl) (u:V),dX ↑I=↑s->dQ X.K G W H I u->∃d,s=.sh d/\bB X.K H (Ow G' c_) d u:=λI s u z r=>by
 cases I <;> cases z;exact⟨_,rfl,U r⟩
def Cg(ok:Ok X.K G H0 W env σ H)(r:bB X.K H (Ow G W) d v) :
  Ok X.K (gd λa=>Ow G W a\/H a=none) H c_ (⇑d::ix.map λj=>dX (env.getD j none)) (↑v::ix.map λj=>σ.getD j none) H:=by
 have I:∀ {d:D} {v:V},bB X.K H (Ow G W) d v->bB X.K H (Ow (gd λa=>Ow G W a\/H a=none) c_) d v:=λr=>r.mono (λ_ _ h=>h) λa us o h=>⟨⟨.inl o,λz=>z⟩,h⟩;refine wB (pre:=[⇑d]) (σp:=[↑v]) ok (λa z=>.inr z) rfl (λi s z=>?_) (Cf I) rfl;cases i with
 |zero=>cases z;exact⟨d,v,rfl,rfl,I r⟩
 |succ i=>cases z
inductive iP (K:ic) (O:Addr->Prop) (H1:Hp) (ds d:i0) (f:i0->Option i0) (i m:Nat) (H':Hp) (ys:ip):Prop
 |mk (rest done:i0) (hm:m=ds.length-i) (hi:i<=ds.length) (sm:bG H1 H') (rp:aI K H' O done ys) (hd:done.length<=i) (ec:f (ds.drop i)=↑rest) (hz:d=done++rest):iP K O H1 ds d f i m H' ys
def qY:2 ^ 20<=sizeLine:=by rw[ie];decide
structure Ch (K:ic) (G:Gd) (J:It) (W:Addr->Prop) (H:Hp) (ds:i0):Prop where
 go:∀H' (i:Nat) d,bG H H'->ds[i]?=↑d->J.go i H'/\∀x H'',J.yld i H' x H''->H''=H'/\bB K H' (Ow G W) d x
 stop:∀H',bG H H'->J.stop ds.length H'
protected def Walk.s(D:Walk K G J W H ds):Ch K G J W H ds:=⟨λH2 i d sm e=>D.go W H2 i d (Step.same sm) e,λH2 sm=>D.stop W H2 (Step.same sm)⟩
def qZ(K:ic)(G:Gd)(H0:Hp)(f:FI):TI:=λσ H R=>DP K G H0 f (λW env ds env' =>
 ∀W' J H',Step W H W' H'->Ok K G H0 W' env' σ H'->Ch K G J W' H' ds->R J H') σ H
variable{tt:FT}{te:FE}{fn:i0->Option i0}{env1:aQ}
def Ci{d rest I:i0}{o:aQ}{Y:St}(s:cE ds.length)(U:i<ds.length)(l:Ok X.K G' H2 c_ o Y H2)(f:Ok X.K G H0 W1 env1 σ H2)(sm:bG H1 H2)(m:aI X.K H2 (Ow G W1) I ys)(hd:I.length<=i)(n:d=I++rest)(c:((tt o).bind λb=>if b.1=true then(te b.2).bind λv=>(fn (ds.drop (i+1))).map (v.1::·) else fn (ds.drop (i+1)))=↑rest)(back:∀ {p g e w},bB X.K g (Ow G' p) e w->e∈d->bB X.K g (Ow G W1) e w) :
  gH X.K tt Y H2 λb H2=>if b=true then kR X.K te Y H2 λv g=>ys.length<sizeLine/\∃h,h<ds.length-i/\iP X.K (Ow G W1) H1 ds d fn (i+1) h g (ys++[v]) else ∃h,h<ds.length-i/\iP X.K (Ow G W1) H1 ds d fn (i+1) h H2 ys:=by
 obtain⟨⟨b,V⟩,t,c⟩:=cr.mp c;refine⟨_,_,c_,_,b,V,l,t,λu H2 s2 Z=>?_⟩;have q:ds.length-(i+1)<ds.length-i:=qe _ _ U;cases b with
 |false=>exact⟨_,q,rest,I,rfl,U,sm.trans Z.stay,f.reps (Step.same Z.stay) m,t3 hd,c,n⟩ |true =>
   obtain⟨⟨e,j⟩,x,c⟩:=cr.mp c;obtain⟨a,y,r⟩:=fb.mp c;refine⟨_,_,u,V,e,j,Z,x,λp v g z k r3=>⟨?_,_,q,a,I++[e],rfl,U,sm.trans k.stay,(f.reps (Step.same k.stay) m).append (.cons (back r3 (by rw[n,<-r];simp)) .nil),?_,y,?_⟩⟩
   ·rw[<-m.length];exact bz (l9 hd (bz U s)) qY
   ·rw[ak];exact Nat.succ_le_succ hd
   ·rw[n,<-r,cx];rfl
def Cj{d rest I:i0}(b:cE ds.length)(U:i<=ds.length)(V:¬i<ds.length)(Y:Ok X.K G H0 W1 env1 σ H')(c:Step W H W1 H1)(sm:bG H1 H')(Z:aI X.K H' (Ow G W1) I ys)(hd:I.length<=i)(e:d=I++rest)(a:fn (ds.drop i)=↑rest)(f:fn []=↑[])(k:∀W' l vs H',Step W H (cS W' l) H'->Ok X.K G H0 W' env1 σ H'->Ok X.K G H0 (cS W' l) env1 σ H'->¬W' l->H' l=↑(.lst vs)->aI X.K H' (Ow G (cS W' l)) d vs->Q (.ref l) H'):ys.length<=sizeLine/\∀D,H' D=none->Q (.ref D) (a_ H' D (.lst ys)):=by
 cases lj U (ja V);rw[vg,f] at a;cases a;refine⟨by rw[<-Z.length];exact cy hd (cy b qY),λl g=>?_⟩;obtain⟨h1,h2,h,j,m,n⟩:=yh Y Z g;rw[e,c8] at k;exact k W1 l _ _ ((c.trans (Step.same sm)).trans h1) h2 h j m n
variable{fi:FI}
def Ck{c:FA}{pr:D->Prop}(p:∀ {e d e'},c e=↑(d,e')->∃ds,fi e=↑(ds,e')/\cE ds.length/\qy tt te (ix.map λj=>cap (e'.getD j none)) ds=↑d/\∀x∈d,pr x)(hi:∀ {W env σ H d v},Ok X.K G H0 W env σ H->bB X.K H (Ow G W) d v->∃G',Ok X.K G' H c_ (⇑d::ix.map λj=>cap (env.getD j none)) (↑v::ix.map λj=>σ.getD j none) H/\∀ {W3 H3 dv w},bB X.K H3 (Ow G' W3) dv w->pr dv->bB X.K H3 (Ow G W) dv w) :
  ∀σ H Q,gO X.K G H0 c σ H Q->yd (qZ X.K G H0 fi) ix (gH X.K tt) (kR X.K te) σ H Q:=λσ H Q z=>by
 obtain⟨W,env,d,env1,ok,q,k⟩:=z;obtain⟨ds,s,f,t,u⟩:=p q;refine⟨W,env,ds,_,ok,s,λW1 J H1 A Y g=>⟨iP X.K (Ow G W1) H1 ds d (qy tt te (ix.map λj=>cap (env1.getD j none))),⟨ds.length,d,[],rfl,f9 _,bG.refl _,.nil,b6 _,t,rfl⟩,λi m H' ys z=>?_⟩⟩;obtain⟨rest,l,B,V,sm,n,hd,Z,o⟩:=z;subst B;have U:=Y.same sm;by_cases I:i<ds.length
 ·rw[iu I] at Z
  obtain⟨C,E⟩:=g.go H' i ds[i] sm (aq I);refine .inr ⟨C,λx a y=>?_⟩;obtain⟨e,F⟩:=E x a y;subst e;obtain⟨G',b,back⟩:=hi U F;exact Ci f I b U sm n hd o Z λr h=>back r (u _ h)
 ·exact .inl ⟨by cases lj V (ja I);exact g.stop H' sm,Cj f V I U A sm n hd o Z rfl k⟩
def wC:∀σ H Q,gO X.K G H0 (j7 fi ix tt te) σ H Q->yd (qZ X.K G H0 fi) ix (gH X.K tt) (kR X.K te) σ H Q :=
 Ck (cap:=dX) (pr:=λ_=>True) (λq=>by
  obtain⟨⟨ds,env1⟩,U,q⟩:=cr.mp q;by_cases D:cE ds.length;case neg=>cases (cb D).symm.trans q
  obtain⟨I,V,q⟩:=fb.mp ((ax D).symm.trans q);cases q;exact⟨ds,U,D,V,λ_ _=>trivial⟩) λok r=>⟨_,Cg ok r,λr3 _=>r3.mono (λ_ _ h=>h) λa us o h=>⟨o.1.elim (λz=>z) λz=>⟨ok.good a (ok.stay.free z),λw=>by obtain⟨_,us,q⟩:=ok.wl a w;rw[z] at q;cases q⟩,h⟩⟩
def q_:∀σ H Q,gO X.K G H0 (j7 fi ix tt te) σ H Q->yd (wA X.K G H0 fi) ix (gH X.K tt) (kR X.K te) σ H Q:=λσ H Q z=>by
 obtain⟨W,env,ds,env',ok,e,k⟩:=wC σ H Q z;exact⟨W,env,ds,env',ok,e,λW' J H' s o w=>k W' J H' s o w.s⟩
variable{X':Cx}
def lY(U:X'.K=X.K):gE X' [] (gH X.K cG):=λpins s σ H Q I D=>by
 obtain⟨G,H0,W,env,b,env',ok,e,k⟩:=D;cases e;exact HV pins s σ H Q I (k W H Step.refl ok)
def kS(D:X'.K=X.K)(h:∀G H0,fV X' G H0 c tt):gE X' [c] (gH X.K tt):=λpins s σ H Q I ⟨G,H0,q⟩=>HW (h G H0).out pins s σ H Q I (by rw[D];exact q)
def gI(D:X'.K=X.K)(h:∀G H0,aT X' G H0 e te):PE X' e (kR X.K te):=λpins s σ H Q I ⟨G,H0,q⟩=>(h G H0).out pins s σ H Q I (by rw[D];exact q)
def nY(an:cA Nn Cn X)(hi:iA X G H0 (.Name x px) a fi)(I:∀cl C s₂ H₂ fp G H0,cA (x::(aS Nn ix)) (aS Nn ix) (kz X x (aS Nn ix) sc cl C s₂ H₂ fp)->aT (kz X x (aS Nn ix) sc cl C s₂ H₂ fp) G H0 e te)(D:uq Nn Cn ix x sc=true:=by decide +kernel)(U:‹X.calm=true›)(V:∀v,foldedSetIterable a X.env v=pure v:=by intro _;rfl) :
  f_ X G H0 (.ListComp e [⟨.Name x px,a,[],0⟩] sc pos) (j7 fi ix cG te) :=
 ⟨(vR (yl an D) (λ_ _ _ _ _ _ _ _ _=>U) hi.out (λcl C s₂ H₂ fp _=>lY (X:=X) rfl) (λcl C s₂ H₂ fp _=>gI (X:=X) rfl (λG H0=>I cl C s₂ H₂ fp G H0 (vq D))) V).imp q_⟩
def IW{cd:Expr}(an:cA Nn Cn X)(hi:iA X G H0 (.Name x px) a fi)(I:∀cl C s₂ H₂ fp G H0,cA (x::(aS Nn ix)) (aS Nn ix) (kz X x (aS Nn ix) sc cl C s₂ H₂ fp)->fV (kz X x (aS Nn ix) sc cl C s₂ H₂ fp) G H0 cd tt)(U:∀cl C s₂ H₂ fp G H0,cA (x::(aS Nn ix)) (aS Nn ix) (kz X x (aS Nn ix) sc cl C s₂ H₂ fp)->aT (kz X x (aS Nn ix) sc cl C s₂ H₂ fp) G H0 e te)(D:uq Nn Cn ix x sc=true:=by decide +kernel)(V:‹X.calm=true›)(Y:∀v,foldedSetIterable a X.env v=pure v:=by intro _;rfl) :
  f_ X G H0 (.ListComp e [⟨.Name x px,a,[cd],0⟩] sc pos) (j7 fi ix tt te) :=
 ⟨(vR (yl an D) (λ_ _ _ _ _ _ _ _ _=>V) hi.out (λcl C s₂ H₂ fp _=>kS (X:=X) rfl (λG H0=>I cl C s₂ H₂ fp G H0 (vq D))) (λcl C s₂ H₂ fp _=>gI (X:=X) rfl (λG H0=>U cl C s₂ H₂ fp G H0 (vq D))) Y).imp q_⟩
def fP(h h':Heap):Prop:=∀b o,h.get? b=↑o->∃o',h'.get? b=↑o'
def fP.trans{a b c:Heap}(x:fP a b)(y:fP b c):fP a c:=λp o q=>let ⟨o',e⟩:=x p o q;y p o' e
def wD{a:Addr}{f:Obj->Obj}(D:∀o,h.get? a=↑o->(h.update a f).get? a=↑(f o)):fP h (h.update a f):=λb o q=>by
 by_cases e:a=b
 ·subst e;exact⟨_,D o q⟩
 ·exact⟨o,(db _ _ e).trans q⟩
structure jT (B:Heap) (l:g9) (e:Addr) (cls fl:Value) (h:Heap):Prop where
 stay:B.StaysIn h
 new:B.get? e=none
 fr:h.FunFrames B l
 tr:∃oe vs T oT ts,h.get? e=↑oe/\oe.cls=cls/\oe.dict=none/\oe.data=.fields vs/\vs[1]?=↑(.ref T)/\vs[2]?=some .none/\B.get? T=none/\T≠e/\h.get? T=↑oT/\oT.data=.fields ts/\ts[3]?=↑fl
def IX(o:Obj)(f:ik->ik):(o.mapFields f).dict=o.dict:=by obtain⟨c,d,D,sl⟩:=o;cases D <;> rfl
section
variable {M:Model} {A:Around} {E:Value->Shared->Prop} {s:Shared} {B:Heap} {env:Env} {outer l:g9} {L e:Addr} {cls fl:Value} {Q:Unit->Shared->Prop}
def Co{D:Obj}{vs:ik}{hd:Value}{nx:Bool}(r:A.frames=↑(env::outer))(f2:s.heap.FunFrames B (env::outer))(t:env.frame=↑L)(Z:s.heap.get? e=↑D)(gd:D.dict=none)(I:D.data=.fields vs)(j:1<vs.size)(u:vs[2]?=some .none)(k1:B.StaysIn s.heap)(k2:B.get? e=none)(h:∀h',jT B (env::outer) e D.cls (rawInt L) h'->s.heap.UpToSlots h'->fP s.heap h'->Q () { s with heap:=h' }) :
  wpAny M A (do let a <-frameOf env;let pl <-entryPlaceOf L nx;let b <-EntryCells.newEntry hd a .none (rawInt L) .none pl;setField (.ref e) 1 b) Q E s:=by
 have c:e∉(env::outer).filterMap (·.frame):=λz=>by
  obtain⟨_,o,k,v⟩:=f2.mem z;rw[Z] at k;cases k;exact v vs I
 refine az (wpAny_frameOf_fun r f2 t λh1 U=>?_);refine az (wpAny_entryPlaceOf λpl V=>?_);refine az (li ?_ (V.sizeOk5 _ _ _ _ _));have l:h1.get? e=↑D:=(U.2.1 e c).trans Z;have m:B.StaysIn h1:=λb o q=>(U.2.1 b λz=>by rw[(f2.mem z).1] at q;cases q).trans (k1 b o q);generalize Y:({ cls:=.type "traceback",dict:=none,data:=.fields ([hd,.ref L,.none,rawInt L,.none]++(if pl.isEmpty then List.replicate 6 Value.none else pl)).toArray }:Obj)=ob;have d:∃ts,ob.data=.fields ts/\ts[3]?=↑(rawInt L):=by subst Y;exact⟨_,rfl,by first | (simp;done) | (rcases V with rfl | ⟨_,_,_,_,_,_,_,rfl⟩ <;> simp)⟩
 have f:ob.isFreed=false:=by subst Y;rfl
 have g:=av (h:=h1) ob l;have p:h1.objs.size≠e:=kj (bw l);have i:=Obj.data_mapFields I (·.setIfInBounds 1 (Value.ref h1.objs.size));refine wpAny_setField g I j (h _ ?_ ?_ ?_)
 ·refine⟨λb o q=>?_,k2,f2.of_keeps λb o q n=>?_,?_⟩
  ·rw[db _ _ (λz:e=b=>by rw[<-z,k2] at q;cases q)]
   exact av _ (m b o q)
  ·obtain⟨sl,z⟩:=U.2.2 b o q
   refine⟨{ o with slots:=sl },?_,rfl⟩;rw[db _ _ (λy:e=b=>by rw[<-y,Z] at q;cases q;exact n vs I)];exact av _ z
  ·obtain⟨ts,w,x⟩:=d
   refine⟨_,_,h1.objs.size,ob,ts,gz _ g (Obj.isFreed_of_fields i),Obj.cls_mapFields _ _,(IX _ _).trans gd,i,by simp[j],by rw[Array.getElem?_setIfInBounds_ne (by decide)];exact u,m.fresh,p,?_,w,x⟩;rw[db _ _ (Ne.symm p)];exact cj h1 f
 ·intro b o q n
  obtain⟨sl,z⟩:=U.2.2 b o q;refine⟨sl,?_⟩;rw[db _ _ (λy:e=b=>by rw[<-y,Z] at q;cases q;exact n vs I)];exact av _ z
 ·intro b o q
  obtain⟨sl,z⟩:=U.2.2 b o q;exact wD (λo q=>gz _ q (by rw[g] at q;cases q;exact Obj.isFreed_of_fields i)) b _ (av _ z)
def wE(x:jT B l e cls fl s.heap)(h:∀h',jT B l e cls .none h'->s.heap.UpToSlots h'->fP s.heap h'->Q () { s with heap:=h' }):wpAny M A (setFlight (.ref e) none) Q E s:=by
 obtain⟨j,vs,T,k,ts,V,d,gd,Y,Z,g,a,c,D,I,i⟩:=x.tr;have sz:3<ts.size:=(ma.mp i).1;unfold setFlight;refine az (kx V Y Z ?_);have U:=Obj.data_mapFields I (·.setIfInBounds 3 ((none:Option Addr).elim Value.none λf=>rawInt f));refine wpAny_setField D I sz (h _ ⟨λb o q=>?_,x.new,x.fr.of_keeps λb o q n=>⟨o,?_,rfl⟩,_,vs,T,_,_,(db _ _ c).trans V,d,gd,Y,Z,g,a,c,gz _ D (Obj.isFreed_of_fields U),U,by simp[sz]⟩ (λb o q n=>⟨o.slots,?_⟩) (wD λo q=>gz _ q (by rw[D] at q;cases q;exact Obj.isFreed_of_fields U)))
 ·exact(db _ _ λz=>by rw[<-z,a] at q;cases q).trans (x.stay b o q)
 ·exact(db _ _ λz=>by rw[<-z,D] at q;cases q;exact n ts I).trans q
 ·exact(db _ _ λz=>by rw[<-z,D] at q;cases q;exact n ts I).trans q
def IY(d:A.frames=↑(env::outer))(U:env.frame=↑L)(x:jT B (env::outer) e cls .none s.heap)(h:∀h',jT B (env::outer) e cls (rawInt L) h'->s.heap.UpToSlots h'->fP s.heap h'->Q () { s with heap:=h' }):wpAny M A (noteFrame (.ref e) env) Q E s:=by
 obtain⟨k,vs,T,l,ts,V,f,gd,Y,Z,g,i,j,D,I,a⟩:=x.tr;subst f;unfold noteFrame;simp only[U];refine az (kx V Y Z ?_);refine az (kx D I a ?_);refine az (wpAny_setField D I (ma.mp a).1 ?_);have c:∀b o,s.heap.get? b=↑o->(∀vs,o.data≠.fields vs)->(s.heap.update T (Obj.mapFields (·.setIfInBounds 3 Value.none))).get? b=↑o:=λb o q n =>
  (db _ _ λz=>by rw[<-z,D] at q;cases q;exact n ts I).trans q
 refine Co d (x.fr.of_keeps λb o q n=>⟨o,c b o q n,rfl⟩) U ((db _ _ j).trans V) gd Y (ma.mp Z).1 g (λb o q=>(db _ _ λz=>by rw[<-z,i] at q;cases q).trans (x.stay b o q)) x.new λh' y u w=>h h' y (λb o q n=>u b o (c b o q n) n) (fP.trans (wD λo q=>gz _ q (by rw[D] at q;cases q;exact Obj.isFreed_of_fields (Obj.data_mapFields I _))) w)
def IZ(D:A.frames=↑(env::outer))(I:env.frame=↑L)(x:jT B (env::outer) e cls .none s.heap)(h:∀h',jT B (env::outer) e cls .none h'->s.heap.UpToSlots h'->fP s.heap h'->Q () { s with heap:=h' }):wpAny M A (noteFrame (.ref e) env) (λ_ U=>wpAny M A (setFlight (.ref e) none) Q E U) E s :=
 IY D I x λh1 V Y Z=>wE V λh2 x2 a b=>h h2 x2 (Y.trans a) (Z.trans b)
def I_{D:Heap}{args:gu}(V:A.frames=↑(env::outer))(f2:D.FunFrames B (env::outer))(I:env.frame=↑L)(k1:B.StaysIn D)(m:Heap.MadeExcOf D s.heap e cls args)(h:∀h',jT B (env::outer) e cls .none h'->s.heap.UpToSlots h'->fP s.heap h'->Q () { s with heap:=h' }):wpAny M A (noteFrame (.ref e) env) (λ_ Y=>wpAny M A (setFlight (.ref e) none) Q E Y) E s:=by
 obtain⟨t,U,_,_⟩:=m.there;have k2:B.get? e=none:=by
  cases q:B.get? e with
  |none=>rfl |some o=>have:=k1 e o q;rw[m.new] at this;cases this
 unfold noteFrame;simp only[I];refine az (kx U rfl (x:=Value.none) rfl ?_);exact Co V (f2.of_keeps λb o q _=>⟨o,m.keeps b o q,rfl⟩) I U rfl rfl ⋯ rfl (λb o q=>m.keeps b o (k1 b o q)) k2 λh1 Z a c=>wE Z λh2 x2 d f=>h h2 x2 (a.trans d) (c.trans f)
end
end L2
namespace L2
open PySem PySem.Spec PyProof.Rows PySem.W
def Cl(K:ic)(c:Str)(C:Addr):Prop:=PySem.W.nsIn K mainGlobals c=↑↑(.ref C)
def iB(P:Program)(w:World)(l:g9)(H:Hp)(s:Shared)(C e:Addr)(H':Hp)(s':Shared):Prop :=
 ∃B,jT B l e (.ref C) .none s'.heap/\(∀b o,s.heap.get? b=↑o->H b=none->b∉eT l->B.get? b=↑o)/\eJ P w H' B/\Un (eT l) [] H H' s.heap s'.heap/\s'.os=s.os/\AllBare s'.gens
abbrev dM(P:Program)(w:World):gW:=λl H s E e s'=>∃ea C H',e=.ref ea/\iB P w l H s C ea H' s'/\E (.ref C) none H'
def XS(X:Cx)(pins:ii)(σ:St)(H:Hp)(C e:Addr)(s':Shared):Prop :=
 (∃s H1,Inv X pins σ H1 s/\iB X.prog X.w X.stack H1 s C e H s')\/∃s args,Inv X pins σ H s/\Heap.MadeExcOf s.heap s'.heap e (.ref C) args/\s'={ s with heap:=s'.heap }
variable{CX:gW}{P:Program}{w:World}{K:ic}{mg:Str->gx}{base:Heap}{x qual:Str}{st:Stmt}{f:Addr}{fd:FuncData}{N ps:gs}{k:Nat}{sp:Sp}
theorem gN.okX(F:gN K x qual st f fd)(S:vo N ps (iy st))(len:∀vs H Q E,sp vs H Q E->vs.length=ps.length)(D:∀(cdv:Value) (A:Around) (outer:g9) (s:Shared) (H:Hp) (vs:ip) (Q:VK) (E:XK),bE k (A.deeper (envOfC qual (iy st) s.heap.objs.size f cdv))->sp vs H Q E ->
   ∃t,gJ (cI CX P w K mg base N qual (iy st) f cdv A outer s H E) (o9 st) t/\t { nx:=λ_ H'=>Q .non H',rt:=Q } (start N vs) H):cJ P w K mg base CX (k+1) f fd ps sp:=by
 obtain⟨oc,od,kV,Y,b,an,cdv,ct,osl,rfl,Z,I⟩:=F.ex;exact Hi Z I S len λA outer s H vs Q E a U=>D cdv A outer s H vs Q E a U
theorem gN.okC(F:gN K x qual st f fd)(S:vo N ps (iy st))(len:∀vs H Q E,sp vs H Q E->vs.length=ps.length)(D:∀(cdv:Value) (A:Around) (outer:g9) (s:Shared) (H:Hp) (vs:ip) (Q:VK) (E:XK),bE k (A.deeper (envOfC qual (iy st) s.heap.objs.size f cdv))->sp vs H Q E ->
   ∃t,gJ (cI CX P w K mg base N qual (iy st) f cdv A outer s H E).nox (o9 st) t/\t { nx:=λ_ H'=>Q .non H',rt:=Q } (start N vs) H):cJ P w K mg base CX (k+1) f fd ps sp :=
 F.okX S len λcdv A outer s H vs Q E I h=>let ⟨t,p,q⟩:=D cdv A outer s H vs Q E I h;⟨t,p.nox,q⟩
variable{X:Cx}{pins:ii}{σ:St}{H H':Hp}{s s':Shared}{C e:Addr}
def iB.inv(I:Inv X pins σ H s)(f:iB X.prog X.w X.stack H s C e H' s'):Inv X pins σ H' s':=by
 obtain⟨B,x,_,D,un,os,U⟩:=f;exact I.call' (ch:=[]) os un (D.kept x.stay) U λb z=>absurd z ⋯
def XS.come{E:Value->Shared->Prop}{Q:Unit->Shared->Prop}(h:XS X pins σ H' C e s')(V:X.stack=X.env::X.outer)(l:X.env.frame=↑X.env.locals)(p:∀h2 D H1,Inv X pins σ H1 D->iB X.prog X.w X.stack H1 D C e H' { s' with heap:=h2 }->Q () { s' with heap:=h2 }):wpAny (model X.prog X.w) X.A (noteFrame (.ref e) X.env) (λ_ D=>wpAny (model X.prog X.w) X.A (setFlight (.ref e) none) Q E D) E s':=by
 rcases h with⟨D,H1,I,f⟩ | ⟨D,args,I,m,es⟩
 ·obtain⟨B,x,r,s,un,os,t⟩:=f
  have st:=I.stack;rw[V] at x st;refine IZ (I.ok.frames.trans (by rw[V])) l x λh2 x2 d Y=>p h2 D H1 I ⟨B,V ▸ x2,r,s,⟨λb o q n U _=>x2.stay b o (r b o q n U),λb o q n U g=>?_,un.free,λb o q g=>?_,un.tups,un.frzs,un.tbls⟩,os,t⟩
  ·obtain⟨sl,z⟩:=un.slot b o q n U g
   rw[V] at U;obtain⟨_,v,y,i⟩:=st.mem U;rw[q] at y;cases y;obtain⟨j,F⟩:=d b _ z i;exact⟨j,F⟩
  ·obtain⟨o',z⟩:=un.there b o q g
   exact Y b o' z
 ·have st:=I.stack
  have G:∀b∈eT X.stack,H' b=none:=I.stkFree;have Z:∀b o,H' b=↑o->b∉eT X.stack:=λb o q z=>by rw[G b z] at q;cases q
  have k:eJ X.prog X.w H' (hideAll D.heap (eT X.stack)):=λb o q =>
   (I.hok b o q).stay (λc u hc z=>hideAll_get _ z (by rcases hc with rfl |hc;exact Z _ _ q;exact Z _ _ hc)) (λ_ z=>z) λ_ _ z=>z
  have f2:D.heap.FunFrames (hideAll D.heap (eT X.stack)) (X.env::X.outer):=V ▸ funFrames_hide (as:=eT X.stack) st λenv Y a H=>rj.mpr ⟨env,Y,H⟩;refine I_ (B:=hideAll D.heap (eT X.stack)) (I.ok.frames.trans (by rw[V])) f2 l (λb o q=>of_hideAll _ q) m λh2 x2 d Y=>p h2 D H' I ⟨_,V ▸ x2,λb o q n U=>hideAll_get _ q U,k,⟨λb o q n U _=>x2.stay b o (hideAll_get _ q U),λb o q n U _=>?_,λ_ _ _ n _=>n,λb o q _=>Y b o (m.keeps b o q),λ_ _ z=>z,λ_ _ _ z=>z,λ_ ps z=>⟨#[],by rw[Array.append_empty];exact z⟩⟩,by rw[es],by rw[es];exact I.bare⟩;obtain⟨_,v,y,i⟩:=st.mem U;rw[q] at y;cases y;exact d b o (m.keeps b o q) i
def wF{scope:Scope}{cd:Value}{A:Around}{outer:g9}{s₀:Shared}{H₀:Hp}{E:XK}(h:XS (cI (dM P w) P w K mg base N qual scope f cd A outer s₀ H₀ E) pins σ H' C e s')(U:E (.ref C) none H'):(cI (dM P w) P w K mg base N qual scope f cd A outer s₀ H₀ E).xe (.ref e) s':=by
 refine az (h.come rfl rfl λh2 Z H1 I f=>⟨e,C,H',rfl,?_,U⟩);have J:=f.inv I;obtain⟨B,x,V,Y,_⟩:=f;refine⟨B,⟨x.stay,x.new,x.fr.2.2,x.tr⟩,λb o q n D=>?_,Y,J.base,J.os,J.bare⟩;refine V b o (I.base.keep b o q n D (by simp[cI])) (I.base.free b o q n (by simp[cI])) λz=>?_;rcases cf.mp (show b∈s₀.heap.objs.size::eT outer from z) with z |z
 ·rw[z] at q;exact absurd (bw q) (gv _)
 ·exact D z
end L2
namespace L2
open PySem PySem.Spec PyProof.Rows
inductive Fl where
 |nx |bk |ct |rt (d:D) |rf (ds:i0) |r2 (dss:List i0) |xc (c:Str) |ra (k:AK) (ps:js)
abbrev FS:=aQ->Option (Fl×aQ)
structure N2 (K:ic) (G:Gd) (H0 H:Hp) (l:Addr) (ls:gy) (dss:List i0):Prop where
 nd:(l::ls).Nodup
 new:∀a∈l::ls,H0 a=none
 cK:H l=↑(.lst (ls.map V.ref))
 len:ls.length=dss.length
 inn:∀(j:Nat) (ds:i0) (a:Addr),dss[j]?=↑ds->ls[j]?=↑a->∃vs,H a=↑(.lst vs)/\aI K H (λb=>G b/\b∉l::ls) ds vs
def eI(X:Cx)(G:Gd)(H0:Hp)(W:Addr->Prop)(H:Hp)(Dn:gM)(env':aQ):Fl->Prop
 | .nx=>∀W' D H',Step W H W' H'->Ok X.K G H0 W' env' D H'->Dn.nx D H' | .bk=>∀W' D H',Step W H W' H'->Ok X.K G H0 W' env' D H'->Dn.bk D H' | .ct=>∀W' D H',Step W H W' H'->Ok X.K G H0 W' env' D H'->Dn.ct D H' | .rt d=>∀W' D v H',Step W H W' H'->Ok X.K G H0 W' env' D H'->bB X.K H' (Ow G W') d v->Dn.rt v H' | .rf ds=>∀l vs H',bG H0 H'->H0 l=none->H' l=↑(.lst vs)->aI X.K H' (λa=>G a/\a≠l) ds vs->Dn.rt (.ref l) H'
 | .r2 dss=>∀l ls H',bG H0 H'->N2 X.K G H0 H' l ls dss->Dn.rt (.ref l) H'
 | .xc c=>∀W' D H' C,Cl X.K c C->Step W H W' H'->Ok X.K G H0 W' env' D H'->∀pins e s',XS X pins D H' C e s'->X.xe (.ref e) s' | .ra k ps=>∀W' D p H',Step W H W' H'->Ok X.K G H0 W' env' D H'->dQ X.K G W' H' (.ag k none ps) (.ref p)->Dn.rt (.ref p) H'
def rb(X:Cx)(G:Gd)(H0:Hp)(g:FS):TS:=λDn σ H=>DP X.K G H0 g (λW env fl env'=> eI X G H0 W H Dn env' fl) σ H
structure eZ (X:Cx) (G:Gd) (H0:Hp) (s:Stmt) (g:FS):Prop where
 out:PS X s (rb X G H0 g)
structure fQ (X:Cx) (G:Gd) (H0:Hp) (s:List Stmt) (g:FS):Prop where
 out:gJ X s (rb X G H0 g)
variable{X:Cx}{e:Expr}{t t':TS}
def PS.imp{e:Stmt}(h:PS X e t)(i:∀D σ H,t' D σ H->t D σ H):PS X e t':=λpins s σ H D I q=>h pins s σ H D I (i D σ H q)
def gJ.imp{e:List Stmt}(h:gJ X e t)(i:∀D σ H,t' D σ H->t D σ H):gJ X e t':=λpins s σ H D I q=>h pins s σ H D I (i D σ H q)
variable{G:Gd}{W W1:Addr->Prop}{H0 H H1:Hp}{Dn:gM}{env':aQ}{fl:Fl}
protected def eI.step(st:Step W H W1 H1)(h:eI X G H0 W H Dn env' fl):eI X G H0 W1 H1 Dn env' fl:=by
 cases fl with
 |nx=>exact λW' D H' s o=>h W' D H' (st.trans s) o |bk=>exact λW' D H' s o=>h W' D H' (st.trans s) o |ct=>exact λW' D H' s o=>h W' D H' (st.trans s) o |rt d=>exact λW' D v H' s o=>h W' D v H' (st.trans s) o |rf ds=>exact h |r2 dss=>exact h |xc c=>exact λW' D H' C z s o=>h W' D H' C z (st.trans s) o |ra k ps=>exact λW' D p H' s o=>h W' D p H' (st.trans s) o
def Fl.out:Fl->Bool | .rt _=>true | .rf _=>true | .r2 _=>true | .xc _=>true | .ra _ _=>true |_=>false
variable{Dn':gM}
protected def eI.go(I:fl.out=true)(h:eI X G H0 W H Dn env' fl)(e:Dn'.rt=Dn.rt)(st:Step W H W1 H1):eI X G H0 W1 H1 Dn' env' fl:=by
 cases fl with
 |nx=>cases I
 |bk=>cases I
 |ct=>cases I
 |rt d=>intro W' D v H' s o r;rw[e];exact h W' D v H' (st.trans s) o r
 |rf ds=>intro v vs H' s n l r;rw[e];exact h v vs H' s n l r
 |r2 dss=>intro v ls H' s n;rw[e];exact h v ls H' s n
 |xc c=>exact λW' D H' C z s o=>h W' D H' C z (st.trans s) o |ra k ps=>intro W' D p H' s o r;rw[e];exact h W' D p H' (st.trans s) o r
@[simp] def aU:FS:=λe=>↑(.nx,e)
@[simp] def aE(g h:FS):FS:=λe=>(g e).bind λr=>match r.1 with | .nx=>h r.2 |_=>↑r
@[simp] def aG(i:Nat)(f:FE):FS:=λe=>(f e).map λr=>(.nx,r.2.set i ⇑r.1)
@[simp] def bM(i:Nat)(f:FA):FS:=λe=>(f e).map λr=>(.nx,r.2.set i ↑(.ow r.1))
@[simp] def aM(f:FE):FS:=λe=>(f e).map λr=>(.rt r.1,r.2)
@[simp] def wG(f:FA):FS:=λe=>(f e).map λr=>(.rf r.1,r.2)
@[simp] def bZ(c:FT)(g h:FS):FS:=λe=>(c e).bind λr=>if r.1=true then g r.2 else h r.2
@[simp] def j1(f:FE):FS:=λe=>(f e).map λr=>(.nx,r.2)
@[simp] def rd:FS:=λ_=>none
def bW(i:Nat)(g:FS):i0->aQ->Option (Fl×aQ)
 | [],e=>↑(.nx,e) |d::r,e=>(g (e.set i ⇑d)).bind λq=>match q.1 with | .nx=>bW i g r q.2 | .ct=>bW i g r q.2 | .bk=>↑(.nx,q.2) | .rt d=>↑(.rt d,q.2) | .rf ds=>↑(.rf ds,q.2) | .r2 ds=>↑(.r2 ds,q.2) | .xc c=>↑(.xc c,q.2) | .ra k ps=>↑(.ra k ps,q.2)
@[simp] def bP(i:Nat)(fi:FI)(g:FS):FS:=λe=>(fi e).bind λr=>bW i g r.1 r.2
def qm(c:FT)(g:FS):Nat->aQ->Option (Fl×aQ)
 |0,_=>none |n+1,e=>(c e).bind λr=>if r.1=true then(g r.2).bind λq=>match q.1 with | .nx=>qm c g n q.2 | .ct=>qm c g n q.2 | .bk=>↑(.nx,q.2) | .rt d=>↑(.rt d,q.2) | .rf ds=>↑(.rf ds,q.2) | .r2 ds=>↑(.r2 ds,q.2) | .xc c=>↑(.xc c,q.2) | .ra k ps=>↑(.ra k ps,q.2) else ↑(.nx,r.2)
def j9  : fQ X G H0 [] aU:=⟨Gn.imp λDn σ H D=>by
 obtain⟨W,env,fl,env',ok,q,k⟩:=D;cases q;exact k W σ H Step.refl ok⟩
variable{s:Stmt}{ss:List Stmt}{u v:FS}
def ed(h1:eZ X G H0 s u)(h2:fQ X G H0 ss v):fQ X G H0 (s::ss) (aE u v):=⟨(Go h1.out h2.out).imp λDn σ H U=>by
 obtain⟨W,env,fl,env',ok,q,k⟩:=U;cases e1:u env with
 |none=>simp[e1] at q |some r =>
   obtain⟨D,env1⟩:=r;refine⟨W,env,D,env1,ok,e1,?_⟩;cases D with
   |nx =>
     have q:v env1=↑(fl,env'):=by simpa[aE,e1] using q
     exact λW1 V H1 Y I=>⟨W1,env1,fl,env',I,q,k.step Y⟩
   |bk =>
     have q:↑(Fl.bk,env1)=↑(fl,env'):=by simpa[aE,e1] using q
     cases q;exact k
   |ct =>
     have q:↑(Fl.ct,env1)=↑(fl,env'):=by simpa[aE,e1] using q
     cases q;exact k
   |rt d =>
     have q:↑(Fl.rt d,env1)=↑(fl,env'):=by simpa[aE,e1] using q
     cases q;exact k
   |rf d =>
     have q:↑(Fl.rf d,env1)=↑(fl,env'):=by simpa[aE,e1] using q
     cases q;exact k
   |r2 d =>
     have q:↑(Fl.r2 d,env1)=↑(fl,env'):=by simpa[aE,e1] using q
     cases q;exact k
   |xc d =>
     have q:↑(Fl.xc d,env1)=↑(fl,env'):=by simpa[aE,e1] using q
     cases q;exact k
   |ra d d' =>
     have q:↑(Fl.ra d d',env1)=↑(fl,env'):=by simpa[aE,e1] using q
     cases q;exact k⟩
def e7(h:eZ X G H0 s u):fQ X G H0 [s] u:=⟨Gp h.out⟩
variable{f:FE}{pos p':Pos}{x:Str}{i:Nat}
def Ja(V:X.N.Nodup)(hi:‹X.N[i]?=↑x›)(Y:aT X G H0 e f)(ps:PS X (.Assign [.Name x p'] e pos) (eX (tD X.K G H0 f) (p9 i))):eZ X G H0 (.Assign [.Name x p'] e pos) (aG i f):=⟨ps.imp λDn σ H I=>by
 obtain⟨W,env,fl,env',ok,q,k⟩:=I;cases e1:f env with
 |none=>simp[e1] at q |some r =>
   have q:↑(Fl.nx,r.2.set i ↑(Sl.sh r.1))=↑(fl,env'):=by simpa[aG,e1] using q
   cases q;exact⟨W,env,_,_,ok,e1,λW1 v1 H1 U D p1=>k W1 _ H1 U (D.set p1)⟩⟩
variable{F:FA}
def mz(ps:PS X (.Assign [.Name x p'] e pos) (eX (gO X.K G H0 F) (p9 i))):eZ X G H0 (.Assign [.Name x p'] e pos) (bM i F):=⟨ps.imp λDn σ H U=>by
 obtain⟨W,env,fl,env',ok,q,k⟩:=U;cases e1:F env with
 |none=>simp[e1] at q |some r =>
   have q:↑(Fl.nx,r.2.set i ↑(Sl.ow r.1))=↑(fl,env'):=by simpa[bM,e1] using q
   cases q;exact⟨W,env,_,_,ok,e1,λW1 l vs H1 V D I Y Z a=>k (cS W1 l) _ H1 V (I.setO (.inr rfl) Z a (D.noOwn Y))⟩⟩
def io(I:aT X G H0 e f):eZ X G H0 (.Return ↑e pos) (aM f):=⟨(n2 I.out).imp λDn σ H U=>by
 obtain⟨W,env,fl,env',ok,q,k⟩:=U;cases e1:f env with
 |none=>simp[e1] at q |some r =>
   have q:↑(Fl.rt r.1,r.2)=↑(fl,env'):=by simpa[aM,e1] using q
   cases q;exact⟨W,env,_,_,ok,e1,λW1 v1 H1 V D p1=>k W1 σ v1 H1 V D p1⟩⟩
def Jb(U:f_ X G H0 e F):eZ X G H0 (.Return ↑e pos) (wG F):=⟨(n2 U.out).imp λDn σ H V=>by
 obtain⟨W,env,fl,env',ok,q,k⟩:=V;cases e1:F env with
 |none=>simp[e1] at q |some r =>
   have q:↑(Fl.rf r.1,r.2)=↑(fl,env'):=by simpa[wG,e1] using q
   cases q;exact⟨W,env,_,_,ok,e1,λW1 l vs H1 b D I c Y Z=>k l vs H1 D.stay (I.wl l (.inr rfl)).1 Y (Z.mono (λ_ _ h=>h) λa us o h=>⟨⟨o.1,λz=>o.2 (.inr z)⟩,h⟩)⟩⟩
@[simp] def lZ(i:Nat):FS:=λe=>match e[i]? with |some ↑(.ow ds)=>↑(.rf ds,e) |_=>none
variable{Nn Cn:gs}
def wH(an:cA Nn Cn X)(D:‹Nn[i]?=↑x›):eZ X G H0 (.Return ↑(.Name x p') pos) (lZ i):=⟨(n2 ((an.a D).pe)).imp λDn σ H U=>by
 obtain⟨W,env,fl,env',ok,q,k⟩:=U;unfold lZ at q;split at q
 ·rename_i ds V
  cases q;obtain⟨v,Y,l,vs,rfl,I,Z,r⟩:=ok.slot i _ V;exact⟨_,Y,k l vs H ok.stay (ok.wl l I).1 Z (r.mono (λ_ _ h=>h) λa us o h=>⟨⟨o.1,λz=>o.2 (z ▸ I)⟩,h⟩)⟩
 ·cases q⟩
variable{c:Expr}{p:FT}
def j4{I U:List Stmt}(Y:fV X G H0 c p)(Z:fQ X G H0 I u)(a:fQ X G H0 U v):eZ X G H0 (.If c I U pos) (bZ p u v):=⟨(Gr Y.out Z.out a.out).imp λDn σ H b=>by
 obtain⟨W,env,fl,env',ok,q,k⟩:=b;cases e1:p env with
 |none=>simp[e1] at q |some r =>
   obtain⟨t,env1⟩:=r;refine⟨W,env,t,env1,ok,e1,λW1 H1 V D=>?_⟩;cases t with
   |true=>rw[ax rfl];exact⟨W1,env1,fl,env',D,by simpa[bZ,e1] using q,k.step V⟩ |false=>rw[cb cz];exact⟨W1,env1,fl,env',D,by simpa[bZ,e1] using q,k.step V⟩⟩
def wI  : eZ X G H0 s rd:=⟨Gu.imp λDn σ H ⟨W,env,fl,env',ok,q,k⟩=>by cases q⟩
def lv(I:aT X G H0 e f)(U:‹swapsWith e none pos.line X.env=pure false›):eZ X G H0 (.Expr e pos) (j1 f):=⟨(A_ I.out U).imp λDn σ H V=>by
 obtain⟨W,env,fl,env',ok,q,k⟩:=V;cases e1:f env with
 |none=>simp[e1] at q |some r =>
   have q:↑(Fl.nx,r.2)=↑(fl,env'):=by simpa[j1,e1] using q
   cases q;exact⟨W,env,_,_,ok,e1,λW1 v1 H1 Y D p1=>k W1 σ H1 Y D⟩⟩
structure wJ (K:ic) (G:Gd) (J:It) (W:Addr->Prop) (H:Hp) (ds:i0):Prop where
 go:∀W' H' (i:Nat) d,Step W H W' H'->ds[i]?=↑d->J.go i H'/\∀x H'',J.yld i H' x H''->bG H' H''/\bB K H'' (Ow G W') d x
 stop:∀W' H',Step W H W' H'->J.stop ds.length H'
def Cp(K:ic)(G:Gd)(H0:Hp)(f:FI):TI:=λσ H R=>DP K G H0 f (λW env ds env' =>
 ∀W' J H',Step W H W' H'->Ok K G H0 W' env' σ H'->wJ K G J W' H' ds->R J H') σ H
structure jU (X:Cx) (G:Gd) (H0:Hp) (tg:Expr) (e:Expr) (f:FI):Prop where
 out:PI X tg e (Cp X.K G H0 f)
variable{tg a:Expr}
def qX.dj{f:FI}(h:iA X G H0 tg a f):jU X G H0 tg a f:=⟨h.out.imp λσ H R z=>by
 obtain⟨W,env,ds,env',ok,q,k⟩:=z;exact⟨W,env,ds,env',ok,q,λW' J H' st D w=>k W' J H' st D ⟨λI H2 i d s e=>⟨(w.go I H2 i d s e).1,λx U y=>by
  obtain⟨V,r⟩:=(w.go I H2 i d s e).2 x U y;cases V;exact⟨bG.refl _,r⟩⟩,w.stop⟩⟩⟩
def nZ(k:aQ->Option (Fl×aQ))(q:Fl×aQ):Option (Fl×aQ):=match q.1 with | .nx=>k q.2 | .ct=>k q.2 | .bk=>↑(.nx,q.2) | .rt d=>↑(.rt d,q.2) | .rf ds=>↑(.rf ds,q.2) | .r2 ds=>↑(.r2 ds,q.2) | .xc c=>↑(.xc c,q.2) | .ra k ps=>↑(.ra k ps,q.2)
variable{W':Addr->Prop}{H':Hp}{N:gs}
def eI.loop{Y:Fl}{I:aQ}{N:St->Hp->Prop}{kk:aQ->Option (Fl×aQ)}(k:eI X G H0 W H Dn env' fl)(st:Step W H W' H')(Z:nZ kk (Y,I)=↑(fl,env'))(a:∀V D H2,Step W' H' V H2->Ok X.K G H0 V I D H2->kk I=↑(fl,env')->N D H2) :
  eI X G H0 W' H' { Dn with nx:=N,ct:=N,bk:=Dn.nx } I Y:=by
 cases Y with
 |nx=>exact λV D H2 s2 U=>a V D H2 s2 U Z |ct=>exact λV D H2 s2 U=>a V D H2 s2 U Z |bk=>cases Z;exact λV D H2 s2 U=>k V D H2 (st.trans s2) U
 |_=>cases Z;exact k.go rfl rfl st
inductive kT (X:Cx) (G:Gd) (H0:Hp) (W1:Addr->Prop) (H1:Hp) (ds:i0) (L:i0->aQ->Option (Fl×aQ)) (r:Option (Fl×aQ)) (n m:Nat) (σ:St) (H:Hp):Prop
 |mk (W:Addr->Prop) (env:aQ) (hm:m=ds.length-n) (hn:n<=ds.length) (st:Step W1 H1 W H) (ok:Ok X.K G H0 W env σ H) (ef:L (ds.drop n) env=r):kT X G H0 W1 H1 ds L r n m σ H
variable{g:FE}{body:List Stmt}{fi:FI}{b:Expr}{q:FT}
def Cq{g:TG}{b:D->aQ->Option aQ}{L:i0->aQ->Option (Fl×aQ)}(hi:jU X G H0 tg a fi)(i:PG X tg g)(E:fQ X G H0 body u)(F:∀ {W env env' σ H d x} {Q:St->Hp->Prop},Ok X.K G H0 W env σ H->bB X.K H (Ow G W) d x->b d env=↑env'->(∀U,Ok X.K G H0 W env' U H->Q U H)->g x σ H Q)(M:∀e,L [] e=↑(.nx,e))(h1:∀d r e,L (d::r) e=(b d e).bind λe'=>(u e').bind λq=>nZ (L r) q)(N:PassesOwn (model X.prog X.w) X.A X.env X.xe)(O:X.calm=true)(P:∀x,foldedSetIterable a X.env x=pure x):eZ X G H0 (.For tg a body [] pos) (λe=>(fi e).bind λr=>L r.1 r.2):=⟨(Bh N O hi.out i E.out P).imp λDn σ H z=>by
 obtain⟨W,env,fl,env',ok,q,k⟩:=z;obtain⟨⟨ds,env1⟩,R,q⟩:=cr.mp q;refine⟨W,env,ds,env1,ok,R,λW1 J H1 t j v=>⟨kT X G H0 W1 H1 ds L ↑(fl,env'),⟨ds.length,W1,env1,rfl,f9 _,Step.refl,j,q⟩,λn m U H' z=>?_⟩⟩;obtain⟨W',B,S,T,st,Z,V⟩:=z;subst S;by_cases I:n<ds.length
 ·rw[iu I,h1] at V
  obtain⟨c,e2,V⟩:=cr.mp V;obtain⟨⟨l,Y⟩,e3,V⟩:=cr.mp V;obtain⟨i,hy⟩:=v.go W' H' n ds[n] st (aq I);refine .inr ⟨i,λf H2=>∃C,C<ds.length-n/\kT X G H0 W1 H1 ds L ↑(fl,env') (n+1) C f H2,λ_ _ h=>h,λx o y=>?_⟩;obtain⟨sm,rx⟩:=hy x o y;have sn:=st.trans (Step.same sm);exact F (Z.same sm) rx e2 λaa p=>⟨W',c,l,Y,p,e3,k.loop (t.trans sn) V λW2 f H2 s2 s e=>⟨_,qe _ _ I,W2,Y,rfl,I,sn.trans s2,s,e⟩⟩
 ·cases lj T (ja I)
  rw[vg,M] at V;cases V;exact .inl ⟨v.stop W' H' st,k W' U H' (t.trans st) Z⟩⟩
variable{px:Pos}
def mh{tg:Str}(hi:iA X G H0 (.Name tg px) a fi)(D:PG X (.Name tg px) (p9 i))(I:fQ X G H0 body u)(U:PassesOwn (model X.prog X.w) X.A X.env X.xe:=by passes_own)(V:‹X.calm=true›)(Y:∀x,foldedSetIterable a X.env x=pure x:=by intro _;rfl):eZ X G H0 (.For (.Name tg px) a body [] pos) (bP i fi u) :=
 Cq (b:=λd e=>↑(e.set i ⇑d)) (L:=bW i u) hi.dj D I (λok r e k=>by cases e;exact k _ (ok.set r)) (λ_=>rfl) (λ_ _ _=>rfl) U V Y
inductive kU (X:Cx) (G:Gd) (H0:Hp) (W1:Addr->Prop) (H1:Hp) (L:Nat->aQ->Option (Fl×aQ)) (r:Option (Fl×aQ)) (m:Nat) (σ:St) (H:Hp):Prop
 |mk (W:Addr->Prop) (env:aQ) (st:Step W1 H1 W H) (ok:Ok X.K G H0 W env σ H) (ef:L m env=r):kU X G H0 W1 H1 L r m σ H
variable{n:Nat}
def wK(l:fV X G H0 c p)(o:fQ X G H0 body u)(r:PassesOwn (model X.prog X.w) X.A X.env X.xe:=by passes_own):eZ X G H0 (.While c body [] pos) (qm p u n):=⟨(G2 r l.out o.out).imp λDn σ H z=>by
 obtain⟨W,env,fl,env',ok,q,k⟩:=z;refine⟨kU X G H0 W H (qm p u) ↑(fl,env'),⟨n,W,env,Step.refl,ok,q⟩,λm a H' z=>?_⟩;obtain⟨W',V,st,b,U⟩:=z;cases m with
 |zero=>cases U
 |succ m =>
   obtain⟨⟨t,D⟩,s,U⟩:=cr.mp U;refine⟨W',V,t,D,b,s,λg H2 s2 Y=>?_⟩;cases t with
   |false =>
     cases U;exact k g a H2 (st.trans s2) Y
   |true =>
     obtain⟨⟨d,I⟩,v,U⟩:=cr.mp U;exact⟨λZ i=>∃j,j<m+1/\kU X G H0 W H (qm p u) ↑(fl,env') j Z i,λ_ _ h=>h,g,D,d,I,Y,v,k.loop (kk:=qm p u m) (st.trans s2) U λx Z i y f e=>⟨m,f8 _,x,I,(st.trans s2).trans y,f,e⟩⟩⟩
def jV(h:n<2 ^ 20):n<sizeLine:=bz h (by rw[ie];decide)
@[simp] def l_(d:D)(e:aQ)(i:Nat):Option (D×aQ):=match e[i]? with
 |some ↑(.ow ds)=>if cE (ds.length+1) then ↑(.non,e.set i ↑(.ow (ds++[d]))) else none
 |_=>none
@[simp] def qc(i:Nat)(f:FE):FE:=λe=>match e[i]? with
 |some ↑(.ow _)=>(f e).bind λr=>l_ r.1 r.2 i
 |_=>none
variable{p1:Pos}
def uz(m:aT X G H0 a f)(an:cA Nn Cn X)(Z:‹Nn[i]?=↑x›)(D:‹attributeBase (.Name x p') "append" X.env (eval (.Name x p') X.env)=eval (.Name x p') X.env›)(U:((backTo pos (starEach [a] X.env)).all (λx=>!x.1) && (backToKw pos (keywordEach [] X.env)).all (λx=>x.1.isSome)
   && decide ([a].length+([]:List Keyword).length+(if ([]:List Keyword).isEmpty then 0 else 1)<30))=true:=by rfl)(I:‹(p1.endLine==pos.line)=true›)(g:‹starEach [a] X.env=(false,eval a X.env)::starEach [] X.env›) :
  aT X G H0 (.Call (.Attribute (.Name x p') "append" p1) [a] [] pos) (qc i f):=⟨(y8 f7 nc m8 vG ((an.a Z).pe) (oy m.out qt g) D U I g rfl).imp λσ H Q n=>by
 obtain⟨W,env,d,env',ok,q,k⟩:=n;unfold qc at q;split at q;case h_2=>cases q
 rename_i o b;obtain⟨v,c,l,p,rfl,s,e,_⟩:=ok.slot i _ b;cases e1:f env with
 |none=>rw[e1] at q;cases q
 |some r =>
   obtain⟨t,env1⟩:=r;rw[e1,ae] at q;unfold l_ at q;split at q;case h_2=>cases q
   rename_i ds h;split at q;case isFalse=>cases q
   rename_i V;cases q;refine⟨_,c,.inl ⟨rfl,_,.inl (.inl e)⟩,W,env,t,env1,ok,e1,λW1 v1 H1 u Y w=>?_⟩;obtain⟨C,j,E,vs,y,F,z,r⟩:=Y.slot i _ h;rw[c] at j;cases j;cases y;obtain⟨A,B⟩:=Y.turn h c (r.append (.cons w .nil));exact⟨l,vs,v1,rfl,rfl,z,by rw[<-r.length];exact jV (mr V),k W1 _ _ (u.trans B) A .non⟩⟩
@[simp] def kW(i:Nat):FE:=λe=>match e[i]? with
 |some ↑(.ow ds)=>(ds[ds.length-1]?).map λd=>(d,e.set i ↑(.ow ds.dropLast))
 |_=>none
def Jc(an:cA Nn Cn X)(U:‹Nn[i]?=↑x›)(D:‹attributeBase (.Name x p') "pop" X.env (eval (.Name x p') X.env)=eval (.Name x p') X.env›)(I:‹(p1.endLine==pos.line)=true›) :
  aT X G H0 (.Call (.Attribute (.Name x p') "pop" p1) [] [] pos) (kW i):=⟨(HA f7 PySem.F.slot_list_pop PySem.F.type_list_pop HG ((an.a U).pe) D I).imp λσ H Q c=>by
 obtain⟨W,env,d,env',ok,q,k⟩:=c;unfold kW at q;split at q;case h_2=>cases q
 rename_i ds V;obtain⟨v,Y,l,vs,rfl,h,Z,r⟩:=ok.slot i _ V;cases e1:ds[ds.length-1]? with
 |none=>rw[e1] at q;cases q
 |some d' =>
   rw[e1] at q;cases q;obtain⟨u,e,f⟩:=r.get e1;obtain⟨g,b⟩:=ok.turn V Y r.dropLast;exact⟨_,Y,.inl ⟨rfl,_,.inl (.inl Z)⟩,l,vs,u,rfl,rfl,Z,by rw[<-r.length];exact e,k W _ _ b g (ok.rep b f)⟩⟩
def ri(k:D)(e:aQ)(i:Nat):Option (D×aQ):=match k,e[i]? with
 | .int k,↑↑(.ow ds)=>if cE ds.length then(dJ ds.length k).bind λj=>(ds[j]?).map λd=>(d,e.set i ↑(.ow (ds.eraseIdx j))) else none
 |_,_=>none
def zf(i:Nat)(f:FE):FE:=λe=>match e[i]? with
 |some ↑(.ow _)=>(f e).bind λr=>ri r.1 r.2 i
 |_=>none
theorem Cr(o:aT X G H0 a f)(an:cA Nn Cn X)(Z:‹Nn[i]?=↑x›)(I:‹attributeBase (.Name x p') "pop" X.env (eval (.Name x p') X.env)=eval (.Name x p') X.env›)(Y:((backTo pos (starEach [a] X.env)).all (λx=>!x.1) && (backToKw pos (keywordEach [] X.env)).all (λx=>x.1.isSome)
   && decide ([a].length+([]:List Keyword).length+(if ([]:List Keyword).isEmpty then 0 else 1)<30))=true:=by rfl)(U:‹(p1.endLine==pos.line)=true›)(g:‹starEach [a] X.env=(false,eval a X.env)::starEach [] X.env›) :
  aT X G H0 (.Call (.Attribute (.Name x p') "pop" p1) [a] [] pos) (zf i f):=⟨(y8 f7 PySem.F.slot_list_pop PySem.F.type_list_pop HJ ((an.a Z).pe) (oy o.out qt g) I Y U g rfl).imp λσ H Q p=>by
 obtain⟨W,env,d,env',ok,q,k⟩:=p;unfold zf at q;split at q;case h_2=>cases q
 rename_i s b;obtain⟨v,c,l,t,rfl,w,e,_⟩:=ok.slot i _ b;cases e1:f env with
 |none=>rw[e1] at q;cases q
 |some r =>
   obtain⟨L,env1⟩:=r;rw[e1,ae] at q;unfold ri at q;dsimp only at q;split at q;case h_2=>cases q
   rename_i kk ds h;split at q;case isFalse=>cases q
   rename_i D;cases e2:dJ ds.length kk with
   |none=>rw[e2] at q;cases q
   |some j =>
     rw[e2,ae] at q;cases e3:ds[j]? with
     |none=>rw[e3] at q;cases q
     |some d' =>
       rw[e3] at q;cases q;obtain⟨y,M,N,O⟩:=v8 e2;refine⟨_,c,.inl ⟨rfl,_,.inl (.inl e)⟩,W,env,_,env1,ok,e1,λW1 v1 H1 z V A=>?_⟩;obtain⟨P,m,R,vs,B,S,C,r⟩:=V.slot i _ h;rw[c] at m;cases m;cases B;obtain⟨u,E,J⟩:=r.get e3;obtain⟨K,n⟩:=V.turn h c (r.eraseIdx j);exact⟨l,vs,kk,j,u,rfl,by rw[A.int_],C,by have:ds.length<=2 ^ 20:=D;lia,by have:ds.length<=2 ^ 20:=D;lia,by rw[<-r.length];exact y,E,k W1 _ _ (z.trans n) K (V.rep n J)⟩⟩
@[simp] def rk(d k:D)(e:aQ)(i:Nat):Option (Fl×aQ):=match k,e[i]? with
 | .int k,↑↑(.ow ds)=>(dJ ds.length k).map λj=>(.nx,e.set i ↑(.ow (ds.set j d)))
 |_,_=>none
@[simp] def ze(i:Nat)(D I:FE):FS:=λe=>(I e).bind λr=>match r.2[i]? with
 |some ↑(.ow _)=>(D r.2).bind λq=>rk r.1 q.1 q.2 i
 |_=>none
def wL(n:aT X G H0 b g)(o:aT X G H0 e f)(an:cA Nn Cn X)(Y:‹Nn[i]?=↑x›)(p:‹swapsWithSole [.Subscript (.Name x p') b p1] e pos.line X.env=pure false›)(s:‹swappedStores [.Subscript (.Name x p') b p1] e X.env=pure none›)(h1:‹(assignEach [.Subscript (.Name x p') b p1] X.env).map (·.2)=[assign (.Subscript (.Name x p') b p1) X.env]›)(I:∀v,assign (.Subscript (.Name x p') b p1) X.env v=(do
   let ov <-holding [v] (eval (.Name x p') X.env);let iv <-holding [v,ov] (eval b X.env)
   standAt p1
   holding [v,ov,iv] (setItem ov iv v)
   release [v,ov,iv] []):=by intro _;rfl) :
  eZ X G H0 (.Assign [.Subscript (.Name x p') b p1] e pos) (ze i g f):=⟨(Gy o.out (Gx ((an.a Y).pe) n.out vB I) p s h1).imp λDn σ H t=>by
 obtain⟨W,env,fl,env',ok,q,k⟩:=t;cases e1:f env with
 |none=>simp[e1] at q |some r =>
   obtain⟨u,env1⟩:=r;simp only[ze,e1,ae] at q;split at q;case h_2=>cases q
   rename_i w Z;cases e2:g env1 with
   |none=>rw[e2] at q;cases q
   |some c =>
     obtain⟨M,U⟩:=c;rw[e2,ae] at q;unfold rk at q;dsimp only at q;split at q;case h_2=>cases q
     rename_i kk ds h;cases e3:dJ ds.length kk with
     |none=>rw[e3] at q;cases q
     |some j =>
       rw[e3] at q;cases q;refine⟨W,env,u,env1,ok,e1,λW1 v1 H1 y D z=>?_⟩;obtain⟨v,d,l,A,rfl,B,C,_⟩:=D.slot i _ Z;refine⟨_,d,W1,env1,_,U,D,e2,λE v2 H2 s2 V c=>?_⟩;obtain⟨N,m,O,vs,F,P,J,r⟩:=V.slot i _ h;rw[d] at m;cases m;cases F;obtain⟨K,L⟩:=V.turn h d (aI.set (D.rep s2 z) j r);exact⟨l,vs,kk,j,rfl,c.int_,J,by rw[<-r.length];exact e3,k E _ _ ((y.trans s2).trans L) K⟩⟩
def kr(n:Nat)(ds:i0):aQ:=ds.map (λd=>↑(Sl.sh d))++List.replicate (n-ds.length) none
def aR(n ar:Nat)(g:FS):i0->jj:=λds=>if ds.length=ar then(match g (kr n ds) with |some (.rt d,_)=>↑d |some (.nx,_)=>some .non |_=>none) else none
def fW(n ar:Nat)(g:FS):i0->Option i0:=λds=>if ds.length=ar then(match g (kr n ds) with |some (.rf d,_)=>↑d |_=>none) else none
def ry:∀ {n:Nat} {ds:i0} {i:Nat} {s:Sl},(kr n ds)[i]?=↑↑s->∃d,ds[i]?=↑d/\s=.sh d:=λ{n ds i s} h=>by
 unfold kr at h;by_cases hi:i<ds.length
 ·rw[bg (by simpa using hi),bj] at h
  cases e:ds[i]? with
  |none=>rw[e] at h;cases h
  |some d=>rw[e] at h;cases h;exact⟨d,rfl,rfl⟩
 ·rw[cw (by simpa using hi),List.getElem?_replicate] at h
  split at h <;> cases h
variable{O:Addr->Prop}{ds:i0}{vs:ip}{K:ic}
def yp(r:aI K H O ds vs):Ok K (gd λa=>O a\/H a=none) H c_ (kr N.length ds) (start N vs) H:=by
 refine⟨bG.refl _,λa z=>.inr z,λl z=>z.elim,λi s e=>?_,λi j V s2 v1 v2 a D _ _ _ o _=>?_,?_⟩
 ·obtain⟨d,D,rfl⟩:=ry e
  obtain⟨v,I,U⟩:=r.get D;refine⟨v,?_,U.mono (λ_ _ h=>h) λa us o h=>⟨⟨.inl o,λz=>z⟩,h⟩⟩;unfold start;rw[bg (by simpa using(am.mp I).1),bj,I];rfl
 ·obtain⟨d,_,z⟩:=ry D
  subst z;exact o.elim
 ·unfold kr start
  rw[ak,ak,ai,ai,gn,gn,r.length]
variable{f:Addr}{CX:gW}{qual:Str}{st:Stmt}{fd:FuncData}{ps:gs}{k ar:Nat}{P:Program}{w:World}{mg:Str->gx}{base:Heap}
theorem n_{g:FS}(F:gN K x qual st f fd)(S:vo N ps (iy st))(Y:n=N.length)(Z:ar=ps.length)(D:∀(cdv:Value) (A:Around) (outer:g9) (s:Shared) (H:Hp) (E:XK) (G:Gd) (H0:Hp),bE k (A.deeper (envOfC qual (iy st) s.heap.objs.size f cdv)) ->
   fQ (cI CX P w K mg base N qual (iy st) f cdv A outer s H E).nox G H0 (o9 st) g):cJ P w K mg base CX (k+1) f fd ps (cT K (aR n ar g)):=by
 subst Y Z;refine F.okC S (λvs H Q E h=>?_) (λcdv A outer s H vs Q E b h=>?_)
 ·obtain⟨O,ds,d,r,e,_⟩:=h
  rw[<-r.length];unfold aR at e;split at e
  ·assumption
  ·cases e
 ·obtain⟨O,ds,d,r,e,k⟩:=h
  refine⟨_,(D cdv A outer s H E (gd λa=>O a\/H a=none) H b).out,?_⟩;unfold aR at e;split at e;case isFalse=>cases e
  split at e
  ·rename_i d' env' U
   cases e;exact⟨c_,_,_,env',yp r,U,λW' V v H' st I c=>k v H' I.stay (c.mono (λ_ _ h=>h) λa us o h=>⟨o.1,h⟩)⟩
  ·rename_i env' U
   cases e;exact⟨c_,_,_,env',yp r,U,λW' V H' st I=>k .non H' I.stay .non⟩
  ·cases e
theorem wM{g:FS}(F:gN K x qual st f fd)(S:vo N ps (iy st))(I:n=N.length)(U:ar=ps.length)(D:∀(cdv:Value) (A:Around) (outer:g9) (s:Shared) (H:Hp) (E:XK) (G:Gd) (H0:Hp),bE k (A.deeper (envOfC qual (iy st) s.heap.objs.size f cdv)) ->
   fQ (cI CX P w K mg base N qual (iy st) f cdv A outer s H E).nox G H0 (o9 st) g):cJ P w K mg base CX (k+1) f fd ps (jQ K (fW n ar g)):=by
 subst I U;refine F.okC S (λvs H Q E h=>?_) (λcdv A outer s H vs Q E V h=>?_)
 ·obtain⟨O,ds,d,r,e,_⟩:=h
  rw[<-r.length];unfold fW at e;split at e
  ·assumption
  ·cases e
 ·obtain⟨O,ds,d,r,e,k⟩:=h
  refine⟨_,(D cdv A outer s H E (gd λa=>O a\/H a=none) H V).out,?_⟩;unfold fW at e;split at e;case isFalse=>cases e
  split at e
  ·rename_i d' env' Y
   cases e;exact⟨c_,_,_,env',yp r,Y,λl vs' H' sm Z b c=>k l vs' H' sm Z b c⟩
  ·cases e
def rz(K:ic):Sp:=λvs H Q _=>∃(a:Addr) (ns:g8),vs=[.ref a]/\cY K H a (ns.map V.int)/\ns.length<=63/\∀H',Q (.bl true) H'
variable{m:i0->jj}
theorem Jd(F:cJ P w K mg base CX k f fd ps (cT K m))(h:∀ns:g8,ns.length<=63->m [.lst (ns.map D.int)]=↑(.bl true)) :
  cJ P w K mg base CX k f fd ps (rz K):=F.imp λvs H Q E I=>by
 obtain⟨a,ns,e,U,V,q⟩:=I;subst e;exact⟨λ_=>True,[.lst (ns.map D.int)],.bl true,.cons (U.elim (λz=>.lst trivial z (qV ns)) λz=>.klst z (qV ns)) .nil,h ns V,λv H' _ r=>by rw[r.bl_];exact q H'⟩
def wN:∀σ H Q,tD X.K G H0 (aL F) σ H Q->gO X.K G H0 F σ H Q:=λσ H Q Y=>by
 obtain⟨W,env,d,env',ok,q,k⟩:=Y;cases e1:F env with
 |none=>simp[e1] at q |some r =>
   have q:↑(D.lst r.1,r.2)=↑(d,env'):=by simpa[aL,e1] using q
   cases q;refine⟨W,env,_,_,ok,e1,λW1 l vs H1 V I U Z b c=>k W1 _ H1 ⟨V.keep,λa z=>V.ws a (.inl z)⟩ I (.lst ⟨I.good l (U.wl l (.inr rfl)).1,Z⟩ (.inl b) (c.mono (λ_ _ h=>h) λa us o h=>⟨⟨o.1,λz=>o.2 (.inl z)⟩,h⟩))⟩
variable{f:FE}
def ib(I:dW Nn X)(U:aT X G H0 e f)(D:‹Nn[i]?=↑x›)(V:‹swapsWith e ↑(.Name x p') pos.line X.env=pure false›):eZ X G H0 (.Assign [.Name x p'] e pos) (aG i f):=Ja (I.t D).nd (I.t D).n U (qE (I.t D).nd (I.t D).n (I.t D).l U.out V (I.t D).f)
def ot(ps:PS X (.Assign [.Name x p'] e pos) (eX (gO X.K G H0 F) (p9 i))):eZ X G H0 (.Assign [.Name x p'] e pos) (aG i (aL F)):=⟨(PS.imp ps (t':=eX (tD X.K G H0 (aL F)) (p9 i)) λDn σ H h=>wN σ H _ h).imp λDn σ H I=>by
 obtain⟨W,env,fl,env',ok,q,k⟩:=I;cases e1:aL F env with
 |none=>simp only[aG,e1,fx] at q;cases q
 |some r =>
   have q:↑(Fl.nx,r.2.set i ↑(Sl.sh r.1))=↑(fl,env'):=by simpa only[aG,e1,aj] using q
   cases q;exact⟨W,env,_,_,ok,e1,λW1 v1 H1 U D p1=>k W1 _ H1 U (D.set p1)⟩⟩
variable{y:Str}{ix:g7}{sc:Scope}{py spos:Pos}{te:FE}
def yo(an:cA Nn Cn X)(V:dW Nn X)(hi:iA X G H0 (.Name x px) a fi)(Y:∀cl C s₂ H₂ fp G H0,cA (x::(aS Nn ix)) (aS Nn ix) (kz X x (aS Nn ix) sc cl C s₂ H₂ fp)->aT (kz X x (aS Nn ix) sc cl C s₂ H₂ fp) G H0 e te)(U:uq Nn Cn ix x sc=true:=by decide +kernel)(b:‹X.calm=true›)(I:‹Nn[i]?=↑y›)(Z:‹swapsWith (.ListComp e [⟨.Name x px,a,[],0⟩] sc pos) ↑(.Name y py) spos.line X.env=pure true›)(c:∀v,foldedSetIterable a X.env v=pure v:=by intro _;rfl) :
  PS X (.Assign [.Name y py] (.ListComp e [⟨.Name x px,a,[],0⟩] sc pos) spos) (eX (gO X.K G H0 (j7 fi ix cG te)) (p9 i)) :=
 (nM (yl an U) (λ_ _ _ _ _ _ _ _ _=>b) (V.t I).nd (V.t I).n (V.t I).l hi.out (λcl C s₂ H₂ fp _=>lY (X:=X) rfl) (λcl C s₂ H₂ fp _=>gI (X:=X) rfl (λG H0=>Y cl C s₂ H₂ fp G H0 (vq U))) Z (V.t I).f c).imp λD σ H h=>q_ σ H _ h
variable{tt:FT}{cd:Expr}
def Je{Cm:Cx->Prop}(g:∀cl C s₂ H₂ fp pins σ,Inv X pins σ H₂ s₂->(∀b∈fp,dN X pins H₂ b)->Cm (kz X x (aS Nn ix) sc cl C s₂ H₂ fp))(an:cA Nn Cn X)(V:dW Nn X)(hi:qX Cm X G H0 (.Name x px) a fi)(Y:∀cl C s₂ H₂ fp G H0,Cm (kz X x (aS Nn ix) sc cl C s₂ H₂ fp)->cA (x::(aS Nn ix)) (aS Nn ix) (kz X x (aS Nn ix) sc cl C s₂ H₂ fp)->fV (kz X x (aS Nn ix) sc cl C s₂ H₂ fp) G H0 cd tt)(Z:∀cl C s₂ H₂ fp G H0,Cm (kz X x (aS Nn ix) sc cl C s₂ H₂ fp)->cA (x::(aS Nn ix)) (aS Nn ix) (kz X x (aS Nn ix) sc cl C s₂ H₂ fp)->aT (kz X x (aS Nn ix) sc cl C s₂ H₂ fp) G H0 e te)(U:uq Nn Cn ix x sc=true:=by decide +kernel)(I:‹Nn[i]?=↑y›)(c:‹swapsWith (.ListComp e [⟨.Name x px,a,[cd],0⟩] sc pos) ↑(.Name y py) spos.line X.env=pure true›)(j:∀v,foldedSetIterable a X.env v=pure v:=by intro _;rfl) :
  PS X (.Assign [.Name y py] (.ListComp e [⟨.Name x px,a,[cd],0⟩] sc pos) spos) (eX (gO X.K G H0 (j7 fi ix tt te)) (p9 i)) :=
 (nM (yl an U) g (V.t I).nd (V.t I).n (V.t I).l hi.out (λcl C s₂ H₂ fp d=>kS (X:=X) rfl (λG H0=>Y cl C s₂ H₂ fp G H0 d (vq U))) (λcl C s₂ H₂ fp d=>gI (X:=X) rfl (λG H0=>Z cl C s₂ H₂ fp G H0 d (vq U))) c (V.t I).f j).imp λD σ H h=>q_ σ H _ h
abbrev jW:=aQ->Option (List i0×aQ)
def jX(K:ic)(G:Gd)(H0:Hp)(f:jW):TE:=λσ H Q=>DP K G H0 f (λW env dss env' =>
 ∀W' l H',Step W H W' H'->Ok K G H0 W' env' σ H'->dQ K G W' H' (.o2 dss) (.ref l) ->
  (∀(j:Nat) (s:Sl) (v:V) (a:Addr),env'[j]?=↑↑s->σ[j]?=↑↑v->bS H' (.o2 dss) (.ref l) a->¬bS H' s v a)->Q (.ref l) H') σ H
structure Jf (X:Cx) (G:Gd) (H0:Hp) (e:Expr) (f:jW):Prop where
 out:PE X e (jX X.K G H0 f)
@[simp] def mi(i:Nat)(f:jW):FS:=λe=>(f e).map λr=>(.nx,r.2.set i ↑(.o2 r.1))
def Jg{f2:jW}(ps:PS X (.Assign [.Name x p'] e pos) (eX (jX X.K G H0 f2) (p9 i))):eZ X G H0 (.Assign [.Name x p'] e pos) (mi i f2):=⟨ps.imp λDn σ H I=>by
 obtain⟨W,env,fl,env',ok,q,k⟩:=I;cases e1:f2 env with
 |none=>simp[e1] at q |some r =>
   have q:↑(Fl.nx,r.2.set i ↑(Sl.o2 r.1))=↑(fl,env'):=by simpa[mi,e1] using q
   cases q;exact⟨W,env,_,_,ok,e1,λW1 l H1 U D h1 V=>k W1 _ H1 U (D.put h1 V)⟩⟩
def mq(te:FA)(base:aQ):i0->Option (List i0)
 | []=>↑[] |d::r=>(te (⇑d::base)).bind λv=>(mq te base r).map (v.1::·)
def xo(fi:FI)(ix:g7)(te:FA):jW:=λe=>(fi e).bind λr=>if cE r.1.length then(mq te (ix.map λj=>dX (r.2.getD j none)) r.1).map λds=>(ds,r.2) else none
def ou(K:ic)(f:FA):TE:=λσ H Q=>∃G H0,gO K G H0 f σ H Q
variable{te:FA}
def Jh{X':Cx}(D:X'.K=X.K)(h:∀G H0,f_ X' G H0 e te):PE X' e (ou X.K te):=λpins s σ H Q I ⟨G,H0,q⟩=>(h G H0).out pins s σ H Q I (by rw[D];exact q)
inductive Cs (X:Cx) (G:Gd) (H0:Hp) (env:aQ) (σ:St) (W1:Addr->Prop) (H1:Hp) (ds:i0) (d:List i0) (f:i0->Option (List i0)) (i m:Nat) (H':Hp) (ys:ip):Prop
 |mk (Wi:Addr->Prop) (rest done:List i0) (ls:gy) (hm:m=ds.length-i) (hi:i<=ds.length) (sm:bG H1 H') (st:Step W1 H1 Wi H') (ok:Ok X.K G H0 Wi env σ H') (hy:ys=ls.map V.ref) (inn:vS X.K G Wi H' done ls) (nd:ls.Nodup) (fr:∀a∈ls,H1 a=none) (hd:done.length<=i) (ec:f (ds.drop i)=↑rest) (hz:d=done++rest):Cs X G H0 env σ W1 H1 ds d f i m H' ys
theorem Ji:∀σ H Q,jX X.K G H0 (xo fi ix te) σ H Q->yd (wA X.K G H0 fi) ix (gH X.K cG) (ou X.K te) σ H Q:=λσ H Q z=>by
 obtain⟨W,env,d,env',ok,q,k⟩:=z;obtain⟨⟨ds,env1⟩,e1,q⟩:=cr.mp q;by_cases P:cE ds.length;case neg=>cases (cb P).symm.trans q
 obtain⟨al,e2,q⟩:=fb.mp ((ax P).symm.trans q);cases q;refine⟨W,env,ds,_,ok,e1,λW1 J H1 s1 n wk=>⟨Cs X G H0 env1 σ W1 H1 ds d (mq te (ix.map λj=>dX (env1.getD j none))),⟨ds.length,W1,d,[],[],rfl,f9 _,bG.refl _,Step.refl,n,rfl,⟨rfl,λj ds a e=>by cases e⟩,List.nodup_nil,(λa h=>by cases h),b6 _,e2,rfl⟩,λi m H' ys z=>?_⟩⟩;obtain⟨B,rest,D,ls,hm,hi,sm,st,Y,hy,Z,nd,fr,hd,A,R⟩:=z;subst hm hy;have I:ls.length=D.length:=Z.1;have C:∀a∈ls,∃vs,H' a=↑(.lst vs):=λa E=>by
  obtain⟨j,S,e⟩:=lr E;obtain⟨_,vs,h,_⟩:=Z.2 j (D[j]'(I ▸ S)) a (aq _) (e ▸ aq S);exact⟨vs,h⟩
 by_cases U:i<ds.length
 ·rw[iu U] at A
  obtain⟨⟨dv,F⟩,e4,A⟩:=cr.mp A;obtain⟨p,e5,e6⟩:=fb.mp A;obtain⟨hg,hy⟩:=wk.go B H' i ds[i] st (aq U);refine .inr ⟨hg,λx c y=>?_⟩;obtain⟨e,rx⟩:=hy x c y;subst e;refine⟨_,_,c_,_,true,_,Cg (ix:=ix) Y rx,rfl,λW2 H2 s2 aa=>?_⟩;refine⟨_,_,W2,_,dv,F,aa,e4,λW3 l vs H3 s3 ab L nW M rp=>⟨?_,ds.length-(i+1),qe _ _ U,?_⟩⟩
  ·rw[ai,I];exact bz (l9 hd (bz U P)) qY
  ·have t:bG c H3:=ab.stay
   have f:c l=none:=(L.wl l (.inr rfl)).1;obtain⟨q1,q2,q3,T,q5⟩:=Y.fresh t f M (rp.mono (O':=λa=>(Ow G B a\/c a=none)/\a≠l) (λ_ _ h=>h) λa us o h=>⟨⟨o.1,λz=>o.2 (.inr z)⟩,h⟩);have nl:l∉ls:=λz=>by obtain⟨us,h⟩:=C l z;rw[f] at h;cases h
   refine⟨cS B l,p,D++[dv],ls++[l],rfl,U,sm.trans t,st.trans q5,q3,by simp,⟨by simp[I],λj es a ea g=>?_⟩,?_,λa E=>?_,by rw[ak,d5];lia,e5,by rw[R,<-e6,cx];rfl⟩
   ·by_cases S:j<D.length
    ·rw[bg S] at ea
     rw[bg ∅] at g;obtain⟨w,us,h,r⟩:=Z.2 j es a ea g;exact⟨.inl w,us,t _ _ h,Y.reps q5 r⟩
    ·rw[cw ∅] at ea
     rw[cw ∅,I] at g;have R:j-D.length=0:=by
      have:=(am.mp ea).1;simp at this;lia
     rw[R] at ea g;simp[Option.some.injEq] at ea g;subst ea g;exact⟨.inr rfl,vs,M,T⟩
   ·rw[ko]
    exact⟨nd,by simp,λa E b hb=>by simp only[eh] at hb;subst hb;intro z;subst z;exact nl E⟩
   ·rcases dc.mp E with z |z
    ·exact fr a z
    ·rw[eh.mp z];exact sm.free f
 ·cases lj hi (ja U)
  rw[vg] at A;cases A;refine .inl ⟨wk.stop B H' st,by rw[ai,I];exact cy hd (cy P qY),λl f=>?_⟩;have u:bG H' (a_ H' l (.lst (ls.map V.ref))):=zr f;obtain⟨q1,q2,q3,T⟩:=Y.fresh0 (vs:=ls.map V.ref) u f og;have nl:l∉ls:=λz=>by obtain⟨us,h⟩:=C l z;rw[f] at h;cases h
  have ac:bG H1 (a_ H' l (.lst (ls.map V.ref))):=sm.trans u;rw[R,c8] at k;refine k (cS B l) l _ ((s1.trans st).trans T) q3 ⟨l,ls,rfl,.inr rfl,og,c7.mpr ⟨nl,nd⟩,Z.1,λj es a ea g=>?_⟩ λj s v a ej ev o1 o2=>?_
  ·obtain⟨w,us,h,r⟩:=Z.2 j es a ea g
   exact⟨.inl w,us,u _ _ h,Y.reps T r⟩
  ·obtain⟨v',N,hs⟩:=n.slot j s ej
   rw[ev] at N;cases N;have ag:bS H1 s v a:=hs.back (λl' _ _ vs q=>ac _ _ q) o2;have wa:W1 a:=hs.owns ag;have O:H1 a≠none:=λz=>by obtain⟨_,us,q⟩:=n.wl a wa;rw[z] at q;cases q
   rcases o1 with o1 | ⟨l',ls',z,q,hb⟩
   ·cases o1;exact O (sm.free f)
   ·cases z
    rw[og] at q;have:=nR (by simpa using q);subst this;exact O (fr a hb)
def Jj(an:cA Nn Cn X)(V:dW Nn X)(hi:iA X G H0 (.Name x px) a fi)(Y:∀cl C s₂ H₂ fp G H0,cA (x::(aS Nn ix)) (aS Nn ix) (kz X x (aS Nn ix) sc cl C s₂ H₂ fp)->f_ (kz X x (aS Nn ix) sc cl C s₂ H₂ fp) G H0 e te)(U:uq Nn Cn ix x sc=true:=by decide +kernel)(b:‹X.calm=true›)(I:‹Nn[i]?=↑y›)(Z:‹swapsWith (.ListComp e [⟨.Name x px,a,[],0⟩] sc pos) ↑(.Name y py) spos.line X.env=pure true›)(c:∀v,foldedSetIterable a X.env v=pure v:=by intro _;rfl) :
  PS X (.Assign [.Name y py] (.ListComp e [⟨.Name x px,a,[],0⟩] sc pos) spos) (eX (jX X.K G H0 (xo fi ix te)) (p9 i)) :=
 (nM (yl an U) (λ_ _ _ _ _ _ _ _ _=>b) (V.t I).nd (V.t I).n (V.t I).l hi.out (λcl C s₂ H₂ fp _=>lY (X:=X) rfl) (λcl C s₂ H₂ fp _=>Jh (X:=X) rfl (λG H0=>Y cl C s₂ H₂ fp G H0 (vq U))) Z (V.t I).f c).imp λD σ H h=>Ji σ H _ h
variable{env:aQ}{σ:St}
def Jk(ok:Ok X.K G H0 W env σ H):Ok X.K (gd λa=>Ow G W a\/H a=none) H c_ (env.map dX) σ H:=by
 have Y:∀ {d:D} {v:V},bB X.K H (Ow G W) d v->bB X.K H (Ow (gd λa=>Ow G W a\/H a=none) c_) d v:=λr=>r.mono (λ_ _ h=>h) λa us o h=>⟨⟨.inl o,λz=>z⟩,h⟩;have I:∀(i:Nat) (s:Sl),(env.map dX)[i]?=↑↑s->∃d',s=.sh d'/\env[i]?=↑⇑d':=λi s z=>by
  rw[bj] at z;cases q:env[i]? with
  |none=>rw[q] at z;cases z
  |some o =>
    rw[q] at z;have z:dX o=↑s:=b9 z;unfold dX at z;split at z
    ·cases z;exact⟨_,rfl,rfl⟩
    ·cases z
 refine⟨bG.refl _,λa z=>.inr z,λl z=>z.elim,λi s e=>?_,λi j Z s2 v1 v2 a U _ _ _ o _=>by obtain⟨d',rfl,_⟩:=I i Z U;exact o.elim,by rw[ai];exact ok.len⟩;obtain⟨d',rfl,e'⟩:=I i s e;obtain⟨v,U,r⟩:=ok.slot i _ e';exact⟨v,U,Y r⟩
variable{v:V}{d:D}
def Jl{D:Addr->Prop}{H2:Hp}(ok:Ok X.K G H0 W env σ H)(r:bB X.K H2 (Ow (gd λa=>Ow G W a\/H a=none) D) d v):bB X.K H2 (Ow G W) d v:=r.mono (λ_ _ h=>h) λa us o h=>⟨by
 rcases o.1 with z |z
 ·exact z
 ·exact⟨ok.good a (ok.stay.free z),λw=>by obtain⟨_,us,q⟩:=ok.wl a w;rw[z] at q;cases q⟩,h⟩
variable{α:Type}{j:Nat}
def Jm{xs:List α}{k:Int}{y:α}(h:dJ xs.length k=↑j)(h2:xs[j]?=↑y):bJ xs k=↑y:=by
 unfold bJ;rw[h];exact h2
def Jn{dss:List i0}{k:Int}(ok:Ok X.K G H0 W env σ H)(Z:env[i]?=↑↑(.o2 dss))(b:σ[i]?=↑↑v)(c:dJ dss.length k=↑j)(U:dss[j]?=↑ds) :
  ∃(l:Addr) (ls:gy) (a:Addr) (vs:ip),v=.ref l/\H l=↑(.lst (ls.map V.ref))/\ls[j]?=↑a/\bJ (ls.map V.ref) k=↑(.ref a)/\H a=↑(.lst vs)/\aI X.K H (Ow G W) ds vs:=by
 obtain⟨e,Y,l,ls,rfl,f,d,nd,hi⟩:=ok.slot i _ Z;rw[b] at Y;cases Y;have I:j<ls.length:=by rw[hi.1];exact(am.mp U).1
 obtain⟨_,vs,h,r⟩:=hi.2 j ds ls[j] U (by simp[I]);exact⟨l,ls,ls[j],vs,rfl,d,by simp[I],Jm (j:=j) (by rw[ai,hi.1];exact c) (by simp[I]),h,r⟩
@[simp] def oz(k d:D)(e:aQ)(i:Nat):Option (D×aQ):=match k,e[i]? with
 | .int k,↑↑(.o2 dss)=>(dJ dss.length k).bind λj=>(dss[j]?).bind λds=>if cE (ds.length+1) then ↑(.non,e.set i ↑(.o2 (dss.set j (ds++[d])))) else none
 |_,_=>none
@[simp] def rA(i:Nat)(g f:FE):FE:=λe=>match e[i]? with
 |some ↑(.o2 _)=>(g e).bind λr=>(f (r.2.map dX)).bind λq=>oz r.1 q.1 r.2 i
 |_=>none
variable{p2:Pos}
def Jo(A:aT X G H0 b g)(B:∀G H0,aT X G H0 a f)(an:cA Nn Cn X)(h:lM b:=by intro _ _;rfl)(m:‹Nn[i]?=↑x›)(U:‹attributeBase (.Subscript (.Name x p') b p2) "append" X.env (eval (.Subscript (.Name x p') b p2) X.env)=eval (.Subscript (.Name x p') b p2) X.env›)(Y:((backTo pos (starEach [a] X.env)).all (λx=>!x.1) && (backToKw pos (keywordEach [] X.env)).all (λx=>x.1.isSome)
   && decide ([a].length+([]:List Keyword).length+(if ([]:List Keyword).isEmpty then 0 else 1)<30))=true:=by rfl)(V:‹(p1.endLine==pos.line)=true›)(u:‹starEach [a] X.env=(false,eval a X.env)::starEach [] X.env›) :
  aT X G H0 (.Call (.Attribute (.Subscript (.Name x p') b p2) "append" p1) [a] [] pos) (rA i g f) :=
 ⟨(y8 f7 nc m8 vG (qN vA ((an.a m).pe) A.out h) (oy (gI (X:=X) rfl B) qt u) U Y V u rfl).imp λσ H Q C=>by
  obtain⟨W,env,d,env',ok,q,k⟩:=C;unfold rA at q;split at q;case h_2=>cases q
  rename_i E n;obtain⟨v,o,_⟩:=ok.slot i _ n;cases e1:g env with
  |none=>rw[e1] at q;cases q
  |some r =>
    obtain⟨O,env1⟩:=r;rw[e1,ae] at q;dsimp only at q;cases e2:f (env1.map dX) with
    |none=>rw[e2] at q;cases q
    |some p =>
      obtain⟨F,Z⟩:=p;rw[e2,ae] at q;unfold oz at q;split at q;case h_2=>cases q
      rename_i kk dss w;cases e3:dJ dss.length kk with
      |none=>rw[e3] at q;cases q
      |some j =>
        rw[e3,ae] at q;cases e4:dss[j]? with
        |none=>rw[e4] at q;cases q
        |some ds =>
          rw[e4,ae] at q;split at q;case isFalse=>cases q
          rename_i c;cases q;refine⟨v,o,W,env,_,env1,ok,e1,λW1 v1 H1 J D K=>?_⟩;obtain⟨l,ls,a,vs,rfl,y,s,t,z,r⟩:=Jn D w o e3 e4;refine .inl ⟨l,_,kk,.ref a,rfl,K.int_,.inl (.inl y),t,.inl ⟨rfl,vs,.inl (.inl z)⟩,?_⟩;refine⟨_,_,c_,_,F,Z,Jk D,e2,λP v2 H2 s2 I p=>?_⟩;have e:=D.same I.stay;have L:=D.reps (Step.same I.stay) r;obtain⟨M,N⟩:=e.turn2 w o (I.stay _ _ y) e4 s (L.append (.cons (Jl D p) .nil));exact⟨a,vs,v2,rfl,rfl,I.stay _ _ z,by rw[<-r.length];exact jV (mr c),k W1 _ _ ((J.trans (Step.same I.stay)).trans N) M .non⟩⟩
def wO{env:Env}:∀ {names:List (Str×NameKind)} {x:Str},names.lookup x=some .globalImplicit ->
  (names.map λ(n,k)=>if (k==NameKind.free && env.scope.kind==.function && env.kindOf n==some .cell) then(n,NameKind.cell) else(n,k)).lookup x=some .globalImplicit
 | (n,k)::r,x,h=>by
   have D:=@wO env r x;show List.lookup x ((if (k==NameKind.free && env.scope.kind==.function && env.kindOf n==some .cell)=true then(n,NameKind.cell) else(n,k))::_)=_;cases hx:x==n with
   |true =>
     simp only[dh,hx] at h;cases h;simp[dh,hx]
   |false =>
     simp only[dh,hx] at h;by_cases I:(k==NameKind.free && env.scope.kind==.function && env.kindOf n==some .cell)=true
     ·rw[ax I];simp only[dh,hx];exact D h
     ·rw[cb I];simp only[dh,hx];exact D h
variable{s:Shared}{N':gs}{cl:List (Str×Addr)}{C:Addr}{fp:gy}
def wP(h:sc.names.lookup x=some .globalImplicit):Gl (kz X y N' sc cl C s H fp) x:=wO h
def Jp:Ty "int" "int":=⟨by decide +kernel,by decide +kernel,by decide +kernel,by decide +kernel⟩
def Jq:Ty "bool" "bool":=⟨by decide +kernel,by decide +kernel,by decide +kernel,by decide +kernel⟩
def wQ:Ty "str" "str":=⟨by decide +kernel,by decide +kernel,by decide +kernel,by decide +kernel⟩
def xr:Ty "list" "list":=⟨by decide +kernel,by decide +kernel,by decide +kernel,by decide +kernel⟩
def wR:Ty "tuple" "tuple":=⟨by decide +kernel,by decide +kernel,by decide +kernel,by decide +kernel⟩
def Jr(l:List α)(k:Nat)(y:α):(l.toArray.extract 0 k).push y++l.toArray.extract k=(l.take k++y::l.drop k).toArray:=by
 simp;exact jf ⋯
def Js:V->ip->Hp->VK->Prop:=λx vs H Q=>∃(l:Addr) (xs:ip) (i:Int) (y:V),x=.ref l/\vs=[↥i,y]/\H l=↑(.lst xs)/\0<=i/\i<=xs.length/\i<2 ^ 62/\xs.length<sizeLine/\Q .non (a_ H l (.lst (xs.take i.toNat++y::xs.drop i.toNat)))
def aO.ins{xs:ip}{its:gu}{y:V}{u:Value}(r:aO xs its)(D:aO [y] [u])(k:Nat):aO (xs.take k++y::xs.drop k) (its.take k++u::its.drop k):=by
 have:=(r.take k).append (D.append (r.drop k));simpa using this
theorem Jt:lN X "list.insert" Js:=by
 intro pins s σ H x vs v us Q I Z a h;obtain⟨l,xs,i,y,rfl,rfl,V,c,h1,h2,d,q⟩:=h;cases Z;obtain⟨f,Y,rfl,D,U⟩:=a.two;obtain⟨t,rfl⟩:=D;obtain⟨z,its,n,r,g,e⟩:=I.lstM V;refine nr F.slot_list_insert ⟨_,e,rfl⟩ F.entry_list_insert (F.args_list_insert_3 _ _ _) (PySem.AutoSeq1.list_insert_list_int_val_1 l its.toArray n i t Y (by rw[fitsIndex_both (k:=i) ∅ ∅];decide) (by rw[b8];lia)) ⟨e,?_⟩;refine⟨.non,_,I.lset (its':=its.take i.toNat++Y::its.drop i.toNat) V e ?_ (aO.ins r (.cons U .nil) _) ?_,rfl,q⟩
 ·have b:(if i<0 then(i+(its.toArray.size:Int)).toNat else min i.toNat its.toArray.size)=i.toNat:=by
   rw[cb ∅,b8]
   lia
  rw[b,Jr]
 ·rw[ak,bf,fo,e8]
  lia
def mu(k d:D)(e:aQ)(i:Nat):Option (D×aQ):=match k,e[i]? with
 | .int k,↑↑(.ow ds)=>if 0<=k/\k<=ds.length/\cE (ds.length+1) then ↑(.non,e.set i ↑(.ow (ds.take k.toNat++d::ds.drop k.toNat))) else none
 |_,_=>none
def wm(i:Nat)(f g:FE):FE:=λe=>match e[i]? with
 |some ↑(.ow _)=>(bc f (bc g aC) e).bind λr=>match r.1 with | [k,d]=>mu k d r.2 i |_=>none
 |_=>none
theorem rB(t:aT X G H0 a f)(u:aT X G H0 b g)(an:cA Nn Cn X)(Z:‹Nn[i]?=↑x›)(I:‹attributeBase (.Name x p') "insert" X.env (eval (.Name x p') X.env)=eval (.Name x p') X.env›)(V:((backTo pos (starEach [a,b] X.env)).all (λx=>!x.1) && (backToKw pos (keywordEach [] X.env)).all (λx=>x.1.isSome)
   && decide ([a,b].length+([]:List Keyword).length+(if ([]:List Keyword).isEmpty then 0 else 1)<30))=true:=by rfl)(U:‹(p1.endLine==pos.line)=true›)(n:‹starEach [a,b] X.env=(false,eval a X.env)::starEach [b] X.env›)(c:‹starEach [b] X.env=(false,eval b X.env)::starEach [] X.env›)(e:‹(backTo pos (starEach [b] X.env)).any (·.1)=false›) :
  aT X G H0 (.Call (.Attribute (.Name x p') "insert" p1) [a,b] [] pos) (wm i f g):=⟨(y8 f7 PySem.F.slot_list_insert PySem.F.type_list_insert Jt ((an.a Z).pe) (b7 t (b7 u df c) n).out I V U n e).imp λσ H Q w=>by
 obtain⟨W,env,d,env',ok,q,k⟩:=w;unfold wm at q;split at q;case h_2=>cases q
 rename_i y h;obtain⟨v,j,l,z,rfl,A,m,_⟩:=ok.slot i _ h;cases e1:bc f (bc g aC) env with
 |none=>rw[e1] at q;cases q
 |some r =>
   obtain⟨B,env1⟩:=r;rw[e1,ae] at q;dsimp only at q;split at q;case h_2=>cases q
   unfold mu at q;split at q;case h_2=>cases q
   rename_i kk ds o;split at q;case isFalse=>cases q
   rename_i C;obtain⟨E,J,p⟩:=C;cases q;refine⟨_,j,.inl ⟨rfl,_,.inl (.inl m)⟩,W,env,_,env1,ok,e1,λW1 K H1 L Y M=>?_⟩;obtain⟨T,s,l',vs,N,hW,O,r⟩:=Y.slot i _ o;rw[j] at s;cases s;cases N;cases M with
   |cons q1 r2 =>
   cases r2 with
   |cons q2 r3 =>
   cases r3;cases q1;obtain⟨P,R⟩:=Y.turn o j ((r.take kk.toNat).append (.cons q2 (r.drop kk.toNat)));have D:=r.length;have S:ds.length<sizeLine:=jV (mr p);have c4:ds.length+1<=2 ^ 20:=p;exact⟨l,vs,kk,_,rfl,rfl,O,E,by rw[<-D];exact J,by lia,by rw[<-D];exact S,k W1 _ _ (L.trans R) P .non⟩⟩
def ql:g7->i0->aQ->aQ
 |i::ix,d::ds,e=>ql ix ds (e.set i ⇑d)
 |_,_,e=>e
def jC:g7->kB
 | []=>n3 |i::ix=>Ba (p9 i) (jC ix)
def kX(ix:g7)(d:D)(e:aQ):Option aQ:=match d with
 | .tup ds=>if ds.length=ix.length then ↑(ql ix ds e) else none
 |_=>none
def fX(ix:g7)(g:FS):i0->aQ->Option (Fl×aQ)
 | [],e=>↑(.nx,e) |d::r,e=>(kX ix d e).bind λI=>(g I).bind λq=>match q.1 with | .nx=>fX ix g r q.2 | .ct=>fX ix g r q.2 | .bk=>↑(.nx,q.2) | .rt d=>↑(.rt d,q.2) | .rf ds=>↑(.rf ds,q.2) | .r2 ds=>↑(.r2 ds,q.2) | .xc c=>↑(.xc c,q.2) | .ra k ps=>↑(.ra k ps,q.2)
@[simp] def p8(ix:g7)(fi:FI)(g:FS):FS:=λe=>(fi e).bind λr=>fX ix g r.1 r.2
def Ct{K:ic}{W:Addr->Prop}{H:Hp}:∀(ix:g7) (ds:i0) (vs:ip) (env:aQ) (σ:St) (Q:St->Hp->Prop),Ok K G H0 W env σ H->aI K H (Ow G W) ds vs->ds.length=ix.length ->
  (∀I,Ok K G H0 W (ql ix ds env) I H->Q I H)->jC ix vs σ H Q
 | [],ds,vs,env,σ,Q,ok,r,hl,k=>by
   cases r with
   |nil=>exact⟨rfl,k σ ok⟩ |cons _ _=>cases hl
 |i::ix,ds,vs,env,σ,Q,ok,r,hl,k=>by
   cases r with
   |nil=>cases hl
   | @cons d v ds vs r0 r =>
     refine⟨v,vs,rfl,?_⟩;exact Ct ix ds vs _ _ Q (ok.set r0) r (lx hl) k
def vi  : i_ X [] (jC []):=Gv
variable{es:h6}
def mn(I:dW Nn X)(h:i_ X es (jC ix))(D:‹Nn[i]?=↑x›)(U:‹(assignEach (.Name x pos::es) X.env).map (·.2)=assign (.Name x pos) X.env::(assignEach es X.env).map (·.2)›):i_ X (.Name x pos::es) (jC (i::ix)):=Gw (uR (I.t D).nd (I.t D).n (I.t D).l (I.t D).f) h U
def zn(hi:jU X G H0 (.Tuple es k p1) a fi)(h:i_ X es (jC ix))(V:fQ X G H0 body u)(Y:PassesOwn (model X.prog X.w) X.A X.env X.xe:=by passes_own)(I:‹X.calm=true›)(Z:‹(assignEach es X.env).length=ix.length›)(D:‹(assignEach es X.env).findIdx? (·.1)=none›)(c:∀x,foldedSetIterable a X.env x=pure x:=by intro _;rfl):eZ X G H0 (.For (.Tuple es k p1) a body [] pos) (p8 ix fi u) :=
 Cq (b:=kX ix) (L:=fX ix u) hi (Bb (n:=ix.length) I h Z D) V (λ{W env env' σ H d x Q} ok r e k=>by
  unfold kX at e;split at e;case h_2=>cases e
  split at e;case isFalse=>cases e
  rename_i U;cases e;cases r with
  | @tup a vs _ ht rr=>exact⟨a,vs,rfl,.inl (.inl ht),by rw[<-rr.length];exact U,Ct ix _ vs _ σ _ ok rr U k⟩) (λ_=>rfl) (λ_ _ _=>rfl) Y I c
def wS(hi:iA X G H0 (.Tuple es k p1) a fi)(h:i_ X es (jC ix))(I:fQ X G H0 body u)(U:PassesOwn (model X.prog X.w) X.A X.env X.xe:=by passes_own)(V:‹X.calm=true›)(Y:‹(assignEach es X.env).length=ix.length›)(D:‹(assignEach es X.env).findIdx? (·.1)=none›)(Z:∀x,foldedSetIterable a X.env x=pure x:=by intro _;rfl):eZ X G H0 (.For (.Tuple es k p1) a body [] pos) (p8 ix fi u):=zn hi.dj h I U V Y D Z
def iC(F:FA)(g:FE):FA:=λe=>(F e).bind λr=>(g r.2).bind λq=>match q.1 with
 | .int k=>if cE (r.1.length*k.toNat)/\gA (-(2 ^ 62)) (2 ^ 62) k then ↑((List.replicate k.toNat r.1).flatten,q.2) else none
 |_=>none
def aI.rep{K:ic}{H:Hp}{O:Addr->Prop}{ds:i0}{vs:ip}(r:aI K H O ds vs):∀k:Nat,aI K H O (List.replicate k ds).flatten (List.replicate k vs).flatten
 |0=>.nil |k+1=>by
   exact r.append (aI.rep r k)
theorem Cu(j:f_ X G H0 a F)(m:aT X G H0 b g):f_ X G H0 (.BinOp a .Mult b pos) (iC F g):=⟨(qH HM j.out m.out).imp λσ H Q p=>by
 obtain⟨W,env,d,env',ok,q,k⟩:=p;unfold iC at q;cases e1:F env with
 |none=>rw[e1] at q;cases q
 |some r =>
   obtain⟨ds,env1⟩:=r;rw[e1,ae] at q;cases e2:g env1 with
   |none=>rw[e2] at q;cases q
   |some r2 =>
     obtain⟨L,c⟩:=r2;rw[e2,ae] at q;dsimp only at q;split at q;case h_2=>cases q
     rename_i kk;split at q;case isFalse=>cases q
     rename_i s;obtain⟨t,u,v⟩:=s;cases q;refine⟨W,env,_,_,ok,e1,λW1 l vs H1 e D f w x i=>⟨W1,env1,_,_,D,e2,λy v2 H2 s2 I p2=>?_⟩⟩;have U:Step W H W1 H1:=⟨e.keep,λa h=>e.ws a (.inl h)⟩;have V:aI X.K H1 (Ow G W1) ds vs:=i.mono (λ_ _ h=>h) λa us o h=>⟨⟨o.1,λz=>o.2 (.inl z)⟩,h⟩;have Y:=D.reps s2 V;have Z:H2 l=↑(.lst vs):=s2.keep l _ x w;cases p2;refine⟨l,kk,vs,rfl,rfl,Z,by lia,by lia,?_,λn A=>?_⟩
     ·rw[<-i.length];exact cy t (by rw[ie];decide)
     ·obtain⟨h1,h2,B,C,E,J⟩:=yh I (aI.rep Y kk.toNat) A
      exact k y n _ _ ((U.trans s2).trans h1) h2 B C E J⟩
section
variable {X:Cx} {G:Gd} {H0:Hp} {a b c e:Expr} {es:h6} {f g:FE} {F:FA} {f2:jW} {u:FS} {pos p' p1 pos1:Pos} {x:Str} {i:Nat}
variable {CX:gW} {k:Nat} {fa:Addr} {fd:FuncData} {ps:gs} {mF2:i0->Option (List i0)} {E:XK}
end
variable{wr:gy}{pins:ii}{h2:Heap}
def Inv.tupled{tk:Nat}{T:Addr}{us:ik}(I:Inv X pins σ H s)(V:∀b∈wr,dN X pins H b)(hT:s.heap.objs.size<=T)(j:T∉wr)(k:∀b o,b∉wr->s.heap.get? b=↑o->h2.get? b=↑o)(a:h2.IsTuple T us)(d:aO vs us.toList)(f:vs.length<=sizeLine) :
  Inv X pins σ (a_ H T (.tup vs)) { s with heap:=h2,toks:=tk }:=by
 have Y:H T=none:=I.hok.fresh hT;have Z:∀b u,H b=↑u->b∉wr:=λb u e z=>by rw[(V b z).1] at e;cases e
 have neT:∀b o,s.heap.get? b=↑o->b≠T:=λb o e=>ce (bz (bw e) hT);refine I.step (g':=s.gens) (d':=s.drawn) (ch:=wr) (λb D=>⟨(V b D).2.2.2.1,(V b D).2.1,(V b D).2.2.2.2.1,(V b D).2.2.2.2.2⟩) (λb o _ _ U e _=>k b o U e) (λb o _ _ U e _=>⟨o.slots,k b o U e⟩)
  (λb o _ e n=>by rw[jh (neT b o e)];exact n) (λb o U e=>⟨o,k b o U e⟩) (λb xs e=>by rw[jh (rh e Y)];exact e) (λb o u e=>by rw[jh (rh e Y)];exact e)
  (λb ps e=>⟨#[],by rw[jh (rh e Y),e];simp⟩) (λm g=>?_) (λb u e=>?_) I.bare
 ·obtain⟨o,es,h,i,r⟩:=g
  exact⟨o,es,h,k _ o (λz=>(V _ z).2.1 rfl) i,r⟩
 ·by_cases D:b=T
  ·subst D
   rw[og] at e;cases e;exact⟨f,us.toList,d,by rw[Array.toArray_toList];exact a⟩
  ·rw[jh D] at e
   refine(I.hok b u e).stay (λc v U q=>k c v ?_ q) (λc q=>by rw[jh (rh q Y)];exact q) λc xs q=>by rw[jh (rh q Y)];exact q
   rcases U with z |z
   ·rw[z];exact Z b u e
   ·exact Z c _ z
def Inv.turnedL{tk:Nat}(I:Inv X pins σ H s)(U:∀b∈wr,dN X pins H b)(k:∀b o,b∉wr->s.heap.get? b=↑o->h2.get? b=↑o) :
  Inv X pins σ H { s with heap:=h2,toks:=tk }:=by
 have V:∀b u,H b=↑u->b∉wr:=λb u e z=>by rw[(U b z).1] at e;cases e
 refine I.step (g':=s.gens) (d':=s.drawn) (ch:=wr) (λb Y=>⟨(U b Y).2.2.2.1,(U b Y).2.1,(U b Y).2.2.2.2.1,(U b Y).2.2.2.2.2⟩) (λb o _ _ D e _=>k b o D e) (λb o _ _ D e _=>⟨o.slots,k b o D e⟩)
  (λ_ _ _ _ n=>n) (λb o D e=>⟨o,k b o D e⟩) (λ_ _ e=>e) (λ_ _ _ e=>e) (λb ps e=>⟨#[],by rw[e];simp⟩) (λm Z=>?_) (λb u e=>?_) I.bare
 ·obtain⟨o,es,a,d,r⟩:=Z
  exact⟨o,es,a,k _ o (λz=>(U _ z).2.1 rfl) d,r⟩
 ·refine(I.hok b u e).stay (λc v D q=>k c v ?_ q) (λ_ q=>q) λ_ _ q=>q
  rcases D with z |z
  ·rw[z];exact V b u e
  ·exact V c _ z
def wT(go:Nat->Hp->Prop)(pr:Nat->Hp->ip->Prop)(D:Nat->Hp->Prop):It :=
 ⟨go,λi H x H'=>∃t vs,H t=none/\x=.ref t/\H'=a_ H t (.tup vs)/\pr i H vs,D⟩
variable{it:Addr}
def Cv{Z:Nat->Heap->Prop}{go:Nat->Hp->Prop}{pr:Nat->Hp->ip->Prop}{U:Nat->Hp->Prop}(mem:it∈fp)(obj:∀i h,Z i h->∀b∈fp,∃o,h.get? b=↑o/\∀v,o.data≠.cell v)(keep:∀i h h',Z i h->(∀b∈fp,∀o,h.get? b=↑o->h'.get? b=↑o)->Z i h')(z:∀(X:Cx),X.prog=P->X.w=w->X.K=K->X.A.handled=none->∀(i:Nat) (pins:ii) (s:Shared) (σ:St) (H:Hp),Inv X pins σ H s->(∀b∈fp,dN X pins H b)->Z i s.heap->(go i H\/U i H) ->
   ∃a wr n Pt St c j,WalksT P w X.A it a wr n Pt St c/\St j s.heap/\(∀b∈wr,b∈fp)/\(∀h,St (j+1) h->Z (i+1) h)/\(go i H->j<n)/\(U i H->j=n) /\
    (go i H->∀D,Pt j D->∃vs,aO vs D.toList/\vs.length<=sizeLine/\pr i H vs))(self:∀(A:Around) (i:Nat) (s:Shared) (Q:Value->Shared->Prop) (E:Value->Shared->Prop),Z i s.heap->Q (.ref it) s->wpAny (model P w) A (pyIter (.ref it)) Q E s) :
  gZ P w K (.Tuple es k pos) (wT go pr U) fp it Z where
 mem:=mem
 obj:=obj
 keep:=keep
 item:=by
  intro X hP r t u i pins s σ H E I f st g;obtain⟨a,wr,n,Pt,St,c,j,W,x,d,l,lt,_,y⟩:=z X hP r t (I.ok.hd u) i pins s σ H I f st (.inl g);refine W.item j s _ _ (lt g) x λT D h1 tk B hT C m kk=>⟨_,rfl,?_⟩;obtain⟨vs,F,G,J⟩:=y g D B;have p:T∉wr:=W.apart j T h1 m;refine W.go es k pos j T _ _ _ m λh2 s2 q=>?_;refine⟨.ref T,a_ H T (.tup vs),?_,rfl,⟨T,vs,I.hok.fresh hT,rfl,rfl,J⟩,l h2 s2,λb Y=>?_⟩
  ·exact I.tupled (λb Y=>f b (d b Y)) hT p (λb o Y e=>q b o Y (kk b o Y e)) (C.at λo e=>q T o p e) F G
  ·obtain⟨o,L,_⟩:=obj i _ st b Y
   rw[jh (ce (bz (bw L) hT))];exact(f b Y).1
 done:=by
  intro X hP r t u i pins s σ H E I f st g;obtain⟨a,wr,n,Pt,St,c,j,W,x,d,l,_,M,_⟩:=z X hP r t (I.ok.hd u) i pins s σ H I f st (.inr g);cases M g;exact W.done s _ _ x λh1 tk kk=>⟨rfl,I.turnedL (λb Y=>f b (d b Y)) kk⟩
 self:=self
variable{A:Around}{l:Addr}
theorem Ju(I:A.handled=none)(U:l≠it)(c:Nat)(its:ik) :
  Draws P w A.in1 it [it,l] (c+its.size) (λj x=>∃i,j=c+i/\its[i]?=↑x) (λj h=>∃i,j=c+i/\i<=its.size/\h.IsListIter it l i/\h.IsList l its) where
 live:=λj h ⟨i,_,_,⟨o,e,_⟩,_⟩=>⟨o,e⟩
 frame:=λj h h' ⟨i,e,hi,a,b⟩ k=>⟨i,e,hi,a.at λo e=>k it ⋯ o e,b.at λo e=>k l ⋯ o e⟩
 item:=λj s Q E hj ⟨i,e,hi,a,b⟩ hQ=>by
  subst e;have hi:i<its.size:=by lia
  refine wpAny_nextOf_list_item a b (x:=its[i]) (by simp[hi]) λh' V D=>?_;exact hQ _ h' s.toks ⟨i,rfl,by simp[hi]⟩ ⟨i+1,by lia,hi,V,b.extBut D.extBut U⟩ D
 done:=λs Q E ⟨i,e,hi,a,b⟩ hE=>by
  have hi:i=its.size:=by lia
  subst hi;exact wpAny_nextOf_list_end I a b ⋯ hE
def wU(K:ic)(a:Addr)(c:Nat):It :=
 wT (λi H=>∃xs x,cY K H a xs/\xs[i]?=↑x) (λi H vs=>∃y,vs=[↥(c+i:Nat),y]/\∀xs,cY K H a xs->xs[i]?=↑y) (λi H=>∃xs,cY K H a xs/\xs.length=i)
theorem Cw(a it e:Addr)(c:Nat)(R:e≠it) :
  gZ P w K (.Tuple es k pos) (wU K a c) [e,it] e (λi h=>(∃U,IsEnum h e it (c+i:Nat) U)/\h.IsListIter it a i):=by
 refine Cv ⋯ (λi h st b G=>?_) (λi h h' st kk=>?_) ?_ λA i s Q E st W=>?_
 ·obtain⟨⟨U,V⟩,o,ho,_,hd⟩:=st
  rcases cf.mp G with z |z
  ·subst z
   exact⟨_,V,λv z=>by cases (show Data.fields _=Data.cell v from z)⟩
  ·cases eh.mp z
   exact⟨o,ho,λv z=>by rw[hd] at z;cases z⟩
 ·exact⟨st.1.imp λU V=>kk e ⋯ _ V,st.2.at λo x=>kk it ⋯ o x⟩
 ·intro X hP hw hK hh i pins s σ H I hf st d
  subst hP hw hK;obtain⟨⟨U,V⟩,f⟩:=st;have J:∃xs,cY X.K H a xs/\i<=xs.length:=by
   rcases d with⟨xs,x,q,g⟩ | ⟨xs,q,g⟩
   ·exact⟨xs,q,ly (am.mp g).1⟩
   ·exact⟨xs,q,Nat.le_of_eq g.symm⟩
  obtain⟨xs,q,L⟩:=J;obtain⟨its,S,p,hz⟩:=I.list q;have hl:=S.length;obtain⟨ol,Z,j,_⟩:=id p.isList;obtain⟨oi,l,m,_⟩:=id f;have M:a≠it:=λz=>by
   subst z;rw[Z] at l;cases l;rw[j] at m;exact absurd m (by decide)
  have N:e≠a:=λz=>by
   subst z;rw[V] at Z;cases Z;exact absurd (show Value.type "enumerate" = Value.type "list" from j) (by decide)
  have D:=Ju (P:=X.prog) (w:=X.w) hh M c its.toArray;refine⟨_,_,_,_,_,_,c+i,WalksT.enumerateD D e R (by simp[R,N]) ⋯,⟨⟨U,V⟩,i,rfl,by simpa[<-hl] using L,f,p.isList⟩,λb G=>G,λh st=>?_,λd=>?_,λhs=>?_,λd T hv=>?_⟩
  ·obtain⟨⟨n,O⟩,r,e',_,B,_⟩:=st
   have:r=i+1:=by lia
   subst this;exact⟨⟨n,O⟩,B⟩
  ·obtain⟨ys,y,C,Y⟩:=d
   rw[I.list_inj C q] at Y;have:=(am.mp Y).1;simp
   lia
  ·obtain⟨ys,C,Y⟩:=hs
   rw[I.list_inj C q] at Y;simp
   lia
  ·obtain⟨t,x,⟨r,e',g⟩,rfl⟩:=hv
   have:r=i:=by lia
   subst this;obtain⟨ys,y,C,Y⟩:=d;rw[I.list_inj C q] at Y;obtain⟨u,hu,ru⟩:=S.get Y;have:u=x:=by
    have F:its[r]?=↑x:=by simpa using g
    rw[hu] at F;cases F;rfl
   subst this;exact⟨[↥(c+r:Nat),y],.cons ⟨t,rfl⟩ (.cons ru .nil),by show 2<=sizeLine;rw[ie];decide,y,rfl,λzs J=>by rw[I.list_inj J q];exact Y⟩
 ·obtain⟨⟨U,V⟩,_⟩:=st
  exact yu V W
def wV(K:ic)(a b:Addr):It :=
 wT (λi H=>∃xs ys x y,cY K H a xs/\cY K H b ys/\xs[i]?=↑x/\ys[i]?=↑y) (λi H vs=>∃x y,vs=[x,y]/\(∀xs,cY K H a xs->xs[i]?=↑x)/\∀ys,cY K H b ys->ys[i]?=↑y)
  (λi H=>∃xs ys,cY K H a xs/\cY K H b ys/\min xs.length ys.length=i)
structure Cy (z ti to i1 i2:Addr):Prop where
 a1:ti≠z
 a2:to≠z
 a3:i1≠z
 a4:i2≠z
 a5:ti≠to
 a6:ti≠i1
 a7:ti≠i2
 a8:to≠i1
 a9:to≠i2
 aA:i1≠i2
variable{h:Heap}{o:Int->Int->Int}
def Jv{a b:Addr}{o o':Obj}(e:h.get? a=↑o)(e':h.get? b=↑o')(n:o.cls≠o'.cls):a≠b:=λz=>by
 subst z;rw[e] at e';cases e';exact n rfl
theorem Jw(a b z ti to C F:Addr)(Z:Cy z ti to C F) :
  gZ P w K (.Tuple es k pos) (wV K a b) [z,ti,to,C,F] z (λi h=>IsZip h z ti to .none/\IsPair h ti (.ref C) (.ref F)/\(∃u v,IsPair h to u v)/\h.IsListIter C a i/\h.IsListIter F b i):=by
 refine Cv ⋯ (λi h st c G=>?_) (λi h h' st kk=>?_) ?_ λA i s Q E st hQ=>?_
 ·obtain⟨d,h1,⟨u,v,h2⟩,⟨o3,m,_,d3⟩,o4,r,_,d4⟩:=st
  simp at G;rcases G with rfl |rfl |rfl |rfl |rfl
  ·exact⟨_,d,λv q=>by cases (show Data.fields _=Data.cell v from q)⟩
  ·exact⟨_,h1,λv q=>by cases (show Data.seq _ _=Data.cell v from q)⟩
  ·exact⟨_,h2,λv q=>by cases (show Data.seq _ _=Data.cell v from q)⟩
  ·exact⟨_,m,λv q=>by rw[d3] at q;cases q⟩
  ·exact⟨_,r,λv q=>by rw[d4] at q;cases q⟩
 ·obtain⟨d,h1,⟨u,v,h2⟩,m,r⟩:=st
  exact⟨kk z ⋯ _ d,kk ti ⋯ _ h1,⟨u,v,kk to ⋯ _ h2⟩,m.at λo e=>kk C ⋯ o e,r.at λo e=>kk F ⋯ o e⟩
 ·intro X hP hw hK hh i pins s σ H I hf st J
  subst hP hw hK;obtain⟨d,h1,⟨u,v,h2⟩,m,r⟩:=st;have L:∃xs ys,cY X.K H a xs/\cY X.K H b ys/\i<=xs.length/\i<=ys.length:=by
   rcases J with⟨xs,ys,x,y,q,f,Y,t⟩ | ⟨xs,ys,q,f,Y⟩
   ·exact⟨xs,ys,q,f,ly (am.mp Y).1,ly (am.mp t).1⟩
   ·exact⟨xs,ys,q,f,by lia,by lia⟩
  obtain⟨xs,ys,q,f,ag,ab⟩:=L;obtain⟨its,rv,p,_⟩:=I.list q;obtain⟨its',M,p',_⟩:=I.list f;have hl:=rv.length;have al:=M.length;obtain⟨ol,g,j,_⟩:=id p.isList;obtain⟨an,U,V,_⟩:=id p'.isList;obtain⟨o3,N,O,_⟩:=id m;obtain⟨o4,R,S,_⟩:=id r;have B:∀ {l o T c o'},s.heap.get? l=↑o->o.cls=.type "list"->s.heap.get? c=↑o'->o'.cls=.type T->T ≠ "list"->l≠c:=λe1 e2 e3 e4 n=>Jv e1 e3 (by rw[e2,e4];intro z;cases z;exact n rfl);have D:ZipApart z ti to C F a b:=⟨Z.a1,Z.a2,Z.a3,Z.a4,Z.a5,Z.a6,Z.a7,Z.a8,Z.a9,Z.aA,B (T:="zip") g j d rfl (by decide),B (T:="tuple") g j h2 rfl (by decide),B g j N O (by decide),B g j R S (by decide),B (T:="zip") U V d rfl (by decide),B (T:="tuple") U V h2 rfl (by decide),B U V N O (by decide),B U V R S (by decide)⟩;refine⟨_,_,_,_,_,_,i,WalksT.zip2 hh z ti to C F a b D its.toArray its'.toArray,⟨d,h1,⟨u,v,h2⟩,m,r,p.isList,p'.isList⟩,λc G=>?_,λh st=>?_,λJ=>?_,λhs=>?_,λJ ac hv=>?_⟩
  ·simp at G ⊢
   rcases G with rfl |rfl |rfl |rfl <;> simp
  ·obtain⟨d,h1,h2,m,r,_,_⟩:=st
   exact⟨d,h1,h2,m,r⟩
  ·obtain⟨W,aa,x,y,q1,q2,Y,t⟩:=J
   rw[I.list_inj q1 q] at Y;rw[I.list_inj q2 f] at t;have:=(am.mp Y).1;have:=(am.mp t).1;simp
   lia
  ·obtain⟨W,aa,q1,q2,Y⟩:=hs
   rw[I.list_inj q1 q,I.list_inj q2 f] at Y;simp
   lia
  ·obtain⟨W,aa,x,y,q1,q2,Y,t⟩:=J
   rw[I.list_inj q1 q] at Y;rw[I.list_inj q2 f] at t;obtain⟨ux,uy,eu,ew,rfl⟩:=hv;obtain⟨u1,e1,r1⟩:=rv.get Y;obtain⟨u2,e2,r2⟩:=M.get t;have t1:u1=ux:=by
    have z:its[i]?=↑ux:=by simpa using eu
    rw[e1] at z;cases z;rfl
   have t2:u2=uy:=by
    have z:its'[i]?=↑uy:=by simpa using ew
    rw[e2] at z;cases z;rfl
   subst t1;subst t2;exact⟨[x,y],.cons r1 (.cons r2 .nil),by show 2<=sizeLine;rw[ie];decide,x,y,rfl,λzs L=>by rw[I.list_inj L q];exact Y,λzs L=>by rw[I.list_inj L f];exact t⟩
 ·exact wpAny_pyIter_zip st.1 hQ
abbrev iQ(h:Heap)(l:Addr):Heap:=h.push { cls:=.type "list_iterator",data:=.fields #[.ref l,.int 0 0] }
abbrev gQ(h:Heap)(l:Addr):Heap:=(iQ h l).push { cls:=.type "enumerate",data:=.fields #[.none,.bool false,.ref h.objs.size,rawInt 1,.none,.none] }
def Jx(v:Value)(t:Tok):checkTypeCall "enumerate" ⟨[v],[("start",.int 1 t)]⟩=pure ():=by kernel_rfl
def Jy(v:Value)(t:Tok):checkBuiltinCall "enumerate.__new__" ⟨[.type "enumerate",v],[("start",.int 1 t)]⟩=pure ():=by kernel_rfl
def Jz(l:Addr)(D:ik)(n:Nat)(U:Option Addr)(sl:Array gx)(t:Tok) :
  Meets (Builtin.«enumerate.__new__» ⟨[.type "enumerate",.ref l],[("start",.int 1 t)]⟩) (λ_ R s=>s.heap.get? l=↑⟨.type "list",U,.seq D n,sl⟩/\R (.ok (.ret (.ref (iQ s.heap l).objs.size))) { s with heap:=gQ s.heap l }) :=
 .of_wp λprog w A R s h=>by
  obtain⟨Z,g,d,tk,os⟩:=s;obtain⟨I,h⟩:=h;have V:=sub_enumerate;have Y:Heap.IsList (Shared.heap ⟨Z,g,d,tk,os⟩) l D:=⟨_,I,rfl,n,rfl⟩
  wp_walk using AutoSeq1.wpAny_loadPart' I
  refine wpAny_stack_any λst=>dg ?_;split
  ·rename_i c _ _ _ _ _
   cases (c==Value.type "enumerate") <;> (refine az (wpAny_of_eq (a:=(Value.ref l,↑(Value.int 1 t))) (by rfl) ?_);wp_walk using AutoSeq1.wpAny_loadPart' I,o6 Y;exact⟨_,rfl,h⟩)
  ·refine az (wpAny_of_eq (a:=(Value.ref l,↑(Value.int 1 t))) (by rfl) ?_);wp_walk using AutoSeq1.wpAny_loadPart' I,o6 Y;exact⟨_,rfl,h⟩
variable{t:Tok}
theorem J0{v x:Value}:Meets (Builtin.«object.__init__» ⟨[v,x],[("start",.int 1 t)]⟩) (λ_ R s=>s.TypeIs v "enumerate"/\R (.ok (.ret .none)) s) :=
 .of_wp λprog w A R s D=>by
  obtain⟨hT,h⟩:=D;have I:=F.called_enumerate.made;have U:=F.called_enumerate.init.lookup;repeat (any_goals (first |assumption |wp_step))
  exact⟨_,rfl,h⟩
theorem J1(a b:Value)(t:Tok):argsOk "object.__init__" ⟨[a,b],[("start",.int 1 t)]⟩:=by
 unfold argsOk;rw[signature?_of (id:="object.__init__") (n:=['_','_','t','i','n','i','_','_']) (o:=['t','c','e','j','b','o']) (by kernel_rfl) F.owner_object];kernel_rfl
variable{Q E:Value->Shared->Prop}{prog:Program}
theorem J2{D:ik}(b:s.heap.IsList l D)(h:Q (.ref (iQ s.heap l).objs.size) { s with heap:=gQ s.heap l }):wpAny (model prog w) A (call (.type "enumerate") [.ref l] [("start",.int 1 t)]) Q E s:=by
 obtain⟨⟨c,U,d,sl⟩,e,V,n,hd⟩:=b;replace V:c=.type "list":=V;replace hd:d=.seq D n:=hd;subst V hd;have Y:=F.called_enumerate.made;have a:=F.called_enumerate.sub;have f:=Jx (.ref l) t;refine nk (codeAny_of_tree (show wpAny _ _ (callAny (.type "enumerate") _) _ _ _ from dg ⟨Code.quiet_builtin _ (by decide +kernel),qw F.entry_type_call ?_⟩));repeat (any_goals (first |assumption |wp_step))
 refine jp (l7 (R:=λr I=>r=.ok (.ret (.ref (iQ s.heap l).objs.size))/\I={ s with heap:=gQ s.heap l }) F.called_enumerate.plain F.entry_enumerate_new (wpAny_of_eq (Jy _ t) (Jz l D n U sl t prog w A.in1 (λr I=>r=.ok (.ret (.ref (iQ s.heap l).objs.size))/\I={ s with heap:=gQ s.heap l }) s ⟨e,rfl,rfl⟩))) λr I g=>?_;obtain⟨rfl,rfl⟩:=g;have hT:Shared.TypeIs { s with heap:=gQ s.heap l } (.ref (iQ s.heap l).objs.size) "enumerate":=⟨_,cj _ rfl,rfl⟩;have i:=F.called_enumerate.init.lookup;have j:=F.called_enumerate.init.bind (.ref (iQ s.heap l).objs.size);repeat (any_goals (first |assumption |wp_step))
 refine jp (l7 (R:=λr s2=>r=.ok (.ret .none)/\s2={ s with heap:=gQ s.heap l }) F.called_enumerate.init.plain F.entry_object_init (F.called_enumerate.init.check _ _ _ _ _ _ _ _ hT (J1 _ _ t) (J0 prog w A.in1 (λr s2=>r=.ok (.ret .none)/\s2={ s with heap:=gQ s.heap l }) _ ⟨hT,rfl,rfl⟩))) λk s2 Z=>?_;obtain⟨rfl,rfl⟩:=Z;repeat (any_goals (first |assumption |wp_step))
theorem J4(n:Nat):Cy (n+4) (n+2) (n+3) n (n+1):=by
 have h:∀i j:Nat,i≠j->n+i≠n+j:=λi j z=>by lia
 exact⟨h 2 4 (by decide),h 3 4 (by decide),h 0 4 (by decide),h 1 4 (by decide),h 2 3 (by decide),h 2 0 (by decide),h 2 1 (by decide),h 3 0 (by decide),h 3 1 (by decide),h 0 1 (by decide)⟩
variable{c:Nat}
theorem o0(h:c∈[n+1,n]):n<=c:=by simp at h;lia
theorem wW(h:c∈[n+4,n+2,n+3,n,n+1]):n<=c:=by simp at h;lia
def Cz:bootBuiltins "enumerate" = ↑(.type "enumerate"):=by decide +kernel
def J6:bootBuiltins "zip" = ↑(.type "zip"):=by decide +kernel
def wX(K:ic)(c:Nat)(ta:TA):TI:=λσ H R=>ta σ H λvs H1=>∃l xs,vs=[.ref l]/\cY K H1 l xs/\R (wU K l c) H1
def wY(K:ic)(ta:TA):TI:=λσ H R=>ta σ H λvs H1=>∃l D xs ys,vs=[.ref l,.ref D]/\cY K H1 l xs/\cY K H1 D ys/\R (wV K l D) H1
variable{p:Pos}{ta:TA}
def J8(Z:Bn X "enumerate")(d:PA X [a] ta)(f:‹starEach [a] X.env=[(false,eval a X.env)]›) :
  PI X (.Tuple es k p1) (.Call (.Name "enumerate" p) [a] [] pos) (wX X.K 0 ta):=by
 intro pins s σ H R I h;refine Call_ (wg I Z.g Z.m Cz (f6 (bI (d pos pins s σ H _ I h) λus D i=>?_) f rfl));obtain⟨vs,H1,U,j,n⟩:=i;obtain⟨l,xs,e,o,q⟩:=n;subst e;cases j with
 |cons r rr =>
   cases rr;cases r;obtain⟨its,v,pl,w⟩:=U.list o;refine call_enumerate_list pl.isList λh' b Y t u=>yu b ?_;refine⟨D.heap.objs.size+1,[D.heap.objs.size+1,D.heap.objs.size],_,_,H1,rfl,U.kept (t':=D.toks) u,Cw l _ _ 0 (Nat.succ_ne_self _),⟨⟨.none,b⟩,Y⟩,λc V=>?_,q⟩;have V:D.heap.objs.size<=c:=o0 V;exact U.fpOk V (U.hok.fresh V)
variable{kp:Pos}
def J9(b:Bn X "enumerate")(f:PA X [a] ta)(n:‹starEach [a] X.env=(false,eval a X.env)::starEach [] X.env›)(Y:‹(backTo pos (starEach [a] X.env)).any (·.1)=false›) :
  PI X (.Tuple es k p1) (.Call (.Name "enumerate" p) [a] [⟨some "start",.Constant ↥1 j p2,kp⟩] pos) (wX X.K 1 ta):=by
 intro pins s σ H R I h;refine i4 (wg I b.g b.m Cz ?_);refine PySem.W.callWith_of (P:=λ_=>True) (by rw[Y];rfl) (λ_ _=>⟨Keeper.machine,.inr (.inl rfl),PySem.W.Looks.of_pure rfl⟩) (evalArgs_kw2 rfl (bI (f pos pins s σ H _ I h) λus u Z=>?_) n);obtain⟨vs,H1,v,w,x⟩:=Z;refine bI (Hh (nm:=some "start") (kpos:=kp) (uJ (i:=1) (j:=j) (pos:=p2)) Hg pos pins u σ H1 (λws H2=>H2=H1/\ws=[↥1]) v ⟨rfl,rfl⟩) λws s2 Z=>?_;obtain⟨C,H2,V,y,z,A⟩:=Z;refine⟨trivial,?_⟩;subst z A;obtain⟨l,xs,e,B,q⟩:=x;subst e;cases w with
 |cons r rr =>
   cases rr;cases r;cases y with
   |cons r' rr' =>
   obtain⟨t,rfl⟩:=r';obtain⟨its,E,pl,F⟩:=V.list B;refine J2 (t:=t) pl.isList ?_;have d:IsEnum (gQ s2.heap l) (iQ s2.heap l).objs.size s2.heap.objs.size 1 .none:=cj _ rfl;have D:(iQ s2.heap l).objs.size=s2.heap.objs.size+1:=jk ..;refine yu d ?_;refine⟨(iQ s2.heap l).objs.size,[(iQ s2.heap l).objs.size,s2.heap.objs.size],_,_,H2,rfl,V.kept (t':=s2.toks) (λc o e=>av _ (av _ e)),Cw l _ _ 1 (by rw[D];exact Nat.succ_ne_self _),⟨⟨.none,d⟩,⟨_,av _ (cj _ rfl),rfl,rfl⟩⟩,λc U=>?_,q⟩;have U:s2.heap.objs.size<=c:=by rw[D] at U;exact o0 U
   exact V.fpOk U (V.hok.fresh U)
def C0(f:Bn X "zip")(j:PA X [a,b] ta)(n:‹starEach [a,b] X.env=[(false,eval a X.env),(false,eval b X.env)]›)(U:‹starEach [b] X.env=[(false,eval b X.env)]›) :
  PI X (.Tuple es k p1) (.Call (.Name "zip" p) [a,b] [] pos) (wY X.K ta):=by
 intro pins s σ H R I h;refine Call_ (wg I f.g f.m J6 (f6 (bI (j pos pins s σ H _ I h) λus D o=>?_) (by rw[n,U]) (by rw[U];rfl)));obtain⟨vs,H1,V,t,u⟩:=o;obtain⟨l,v,xs,ys,e,w,Z,q⟩:=u;subst e;cases t with
 |cons r rr =>
   cases rr with
   |cons r' rr =>
   cases rr;cases r;cases r';obtain⟨its,G,pl,J⟩:=V.list w;obtain⟨its',x,d,y⟩:=V.list Z;refine call_zip_2 pl.isList d.isList λh' i z A B C E F=>wpAny_pyIter_zip i ?_;refine⟨_,[D.heap.objs.size+4,D.heap.objs.size+2,D.heap.objs.size+3,D.heap.objs.size,D.heap.objs.size+1],_,_,H1,rfl,V.kept (t':=D.toks) F,Jw l v _ _ _ _ _ (J4 _),⟨i,z,⟨_,_,A⟩,B,C⟩,λc Y=>?_,q⟩;have Y:D.heap.objs.size<=c:=wW Y;exact V.fpOk Y (V.hok.fresh Y)
def qx:Nat->i0->i0
 |_,[]=>[] |c,d::r=>.tup [↥c,d]::qx (c+1) r
def eO:i0->i0->i0
 |d::r,d'::r'=>.tup [d,d']::eO r r' |_,_=>[]
theorem C1:∀(ds:i0) (c i:Nat),(qx c ds)[i]?=ds[i]?.map λd=>.tup [↥(c+i:Nat),d]
 | [],c,i=>by simp[qx]
 |d::r,c,0=>by simp[qx] |d::r,c,i+1=>by
   simp only[qx,ah];rw[C1 r (c+1) i];rw[show c+1+i=c+(i+1) by lia]
def C2:∀(ds:i0) (c:Nat),(qx c ds).length=ds.length
 | [],_=>rfl |d::r,c=>by simp[qx,C2 r]
def C3:∀(ds es:i0) (i:Nat) (p:D),(eO ds es)[i]?=↑p->∃d e,ds[i]?=↑d/\es[i]?=↑e/\p=.tup [d,e]
 |d::r,e::r',0,p,h=>by simp[eO] at h;exact⟨d,e,by simp,by simp,h.symm⟩ |d::r,e::r',i+1,p,h=>by
   exact C3 r r' i p h
def C4:∀(ds es:i0),(eO ds es).length=min ds.length es.length
 | [],es=>by simp[eO] |d::r,[]=>by simp[eO] |d::r,e::r'=>by simp[eO,C4 r r']
@[simp] def gX(c:Nat)(ds:i0):Option i0:=match ds with | [.lst ds]=>↑(qx c ds) |_=>none
@[simp] def kG(ds:i0):Option i0:=match ds with | [.lst ds,.lst es]=>↑(eO ds es) |_=>none
def C5{t:Addr}(r:aI K H' (Ow G W') ds vs)(D:H' t=none):bB K (a_ H' t (.tup vs)) (Ow G W') (.tup ds) (.ref t):=by
 refine .tup (og ..) (r.mono (λa us e=>by rw[jh (rh e D)];exact e) λa us o h=>⟨o,?_⟩);exact h.keep λo e=>by rw[jh (rh e D)];exact e
def JA(c:Nat)(ok:Ok X.K G H0 W env σ H)(h:fU X.K H (Ow G W) l vs)(r:aI X.K H (Ow G W) ds vs):wJ X.K G (wU X.K l c) W H (qx c ds) where
 go:=λW' H' i d st e=>by
  rw[C1] at e;cases e0:ds[i]? with
  |none=>rw[e0] at e;cases e
  |some d0 =>
    rw[e0] at e;cases e;obtain⟨v,D,I⟩:=(ok.reps st r).get e0;have h':=(ok.lsstep st h).sq;refine⟨⟨vs,v,h',D⟩,λx H'' ⟨t,us,hn,ex,eH,y,eu,hy⟩=>?_⟩;subst ex eH eu;have:=hy vs h';rw[D] at this;cases this;exact⟨zr hn,C5 (.cons ↥_ (.cons I .nil)) hn⟩
 stop:=λW' H' st=>⟨vs,(ok.lsstep st h).sq,by rw[C2,r.length]⟩
def JB{I:Addr}{vs':ip}{es:i0}(ok:Ok X.K G H0 W env σ H)(h:fU X.K H (Ow G W) l vs)(h':fU X.K H (Ow G W) I vs')(r:aI X.K H (Ow G W) ds vs)(U:aI X.K H (Ow G W) es vs'):wJ X.K G (wV X.K l I) W H (eO ds es) where
 go:=λW' H' i d st e=>by
  obtain⟨n,o,g,j,rfl⟩:=C3 _ _ _ _ e;obtain⟨v1,Y,k⟩:=(ok.reps st r).get g;obtain⟨v2,Z,m⟩:=(ok.reps st U).get j;have a:=(ok.lsstep st h).sq;have b:=(ok.lsstep st h').sq;refine⟨⟨vs,vs',v1,v2,a,b,Y,Z⟩,λx H'' ⟨t,us,hn,ex,eH,y1,y2,eu,hy1,hy2⟩=>?_⟩;subst ex eH eu;have c:=hy1 vs a;have f:=hy2 vs' b;rw[Y] at c;cases c;rw[Z] at f;cases f;exact⟨zr hn,C5 (.cons k (.cons m .nil)) hn⟩
 stop:=λW' H' st=>⟨vs,vs',(ok.lsstep st h).sq,(ok.lsstep st h').sq,by rw[C4,r.length,U.length]⟩
def C6(I:PI X tg e (wX X.K c (kE X.K G H0 F))):jU X G H0 tg e (gq (gX c) F):=⟨I.imp λσ H R U=>by
 obtain⟨W,env,ds,env',ok,q,k⟩:=U;cases e1:F env with
 |none=>simp[e1] at q |some z =>
   obtain⟨as,env1⟩:=z;cases e2:gX c as with
   |none=>rw[gq,e1] at q;simp only[ae,e2] at q;cases q
   |some d' =>
     have q:↑(d',env1)=↑(ds,env'):=by rw[gq,e1] at q;simp only[ae,e2] at q;exact q
     cases q;refine⟨W,env,as,_,ok,e1,λW1 vs H1 V D p1=>?_⟩;unfold gX at e2;split at e2
     ·rename_i xs
      cases e2;obtain⟨v,rfl,Y⟩:=wd p1;obtain⟨l,us,rfl,h,r⟩:=Y.lst_;exact⟨l,us,rfl,h.sq,k W1 _ H1 V D (JA c D h r)⟩
     ·cases e2⟩
def rC(D:eM X G H0 [a] F)(I:Bn X "enumerate":=by walk_at "b")(U:‹starEach [a] X.env=[(false,eval a X.env)]›) :
  jU X G H0 (.Tuple es k p1) (.Call (.Name "enumerate" p) [a] [] pos) (gq (gX 0) F):=C6 (J8 I D.out U)
def JC(I:eM X G H0 [a] F)(U:Bn X "enumerate":=by walk_at "b")(V:‹starEach [a] X.env=(false,eval a X.env)::starEach [] X.env›)(D:‹(backTo pos (starEach [a] X.env)).any (·.1)=false›) :
  jU X G H0 (.Tuple es k p1) (.Call (.Name "enumerate" p) [a] [⟨some "start",.Constant ↥1 j p2,kp⟩] pos) (gq (gX 1) F):=C6 (J9 U I.out V D)
def C7(V:eM X G H0 [a,b] F)(Y:Bn X "zip":=by walk_at "b")(Z:‹starEach [a,b] X.env=[(false,eval a X.env),(false,eval b X.env)]›)(I:‹starEach [b] X.env=[(false,eval b X.env)]›) :
  jU X G H0 (.Tuple es k p1) (.Call (.Name "zip" p) [a,b] [] pos) (gq kG F):=⟨(C0 Y V.out Z I).imp λσ H R c=>by
 obtain⟨W,env,ds,env',ok,q,k⟩:=c;cases e1:F env with
 |none=>simp[e1] at q |some z =>
   obtain⟨as,env1⟩:=z;cases e2:kG as with
   |none=>rw[gq,e1] at q;simp only[ae,e2] at q;cases q
   |some d' =>
     have q:↑(d',env1)=↑(ds,env'):=by rw[gq,e1] at q;simp only[ae,e2] at q;exact q
     cases q;refine⟨W,env,as,_,ok,e1,λW1 vs H1 d D p1=>?_⟩;unfold kG at e2;split at e2
     ·rename_i xs ys
      cases e2;obtain⟨v,j,rfl,e,f⟩:=lU p1;obtain⟨l,us,rfl,h,r⟩:=e.lst_;obtain⟨g,U,rfl,h',i⟩:=f.lst_;exact⟨l,g,us,U,rfl,h.sq,h'.sq,k W1 _ H1 d D (JB D h h' r i)⟩
     ·cases e2⟩
def JD{env0:aQ}{z:Int}(h:aB i env=↑(.int z,env0)):env[i]?=↑⇑↥z/\env0=env:=by
 unfold aB at h;split at h
 ·rename_i d hd
  cases h;exact⟨hd,rfl⟩
 all_goals cases h
variable{op:D->D->jj}
def JE(Y:∀D I d,op D I=↑d->∃u v,D=.int u/\I=.int v/\d=.int (o u v)):∀Dn σ H,rb X G H0 (aG i (aD op (aB i) f)) Dn σ H->n7 i (tD X.K G H0 f) (qF o) Dn σ H :=
 λDn σ H Z=>by
 obtain⟨W,env,fl,env',ok,q,k⟩:=Z;unfold aG aD at q;cases e0:aB i env with
 |none=>rw[e0] at q;cases q
 |some r0 =>
   obtain⟨a,env0⟩:=r0;rw[e0,ae] at q;cases e1:f env0 with
   |none=>rw[e1] at q;cases q
   |some U =>
     obtain⟨D,env1⟩:=U;rw[e1,ae] at q;cases e2:op a D with
     |none=>rw[e2] at q;cases q
     |some I =>
       rw[e2] at q;cases q;obtain⟨u,v,rfl,rfl,rfl⟩:=Y _ _ _ e2;obtain⟨b,rfl⟩:=JD e0;obtain⟨y,c,e⟩:=ok.slot i _ b;refine⟨y,c,W,env0,_,_,ok,e1,λW1 v1 H1 g V U=>⟨u,v,bB.int_ e,U.int_,k W1 _ H1 g (V.set ↥_)⟩⟩
def yj(I:dW Nn X)(U:aT X G H0 e f)(D:‹Nn[i]?=↑x›) :
  eZ X G H0 (.AugAssign (.Name x p') .Add e pos) (aG i (aD iw (aB i) f)):=⟨(Gz (I.t D).nd (I.t D).n (I.t D).l U.out Bf (I.t D).f).imp (JE λV Y d h=>by
 cases V <;> try (cases h;done)
 all_goals cases Y <;> first | (cases h;done) |exact⟨_,_,rfl,rfl,(b9 h).symm⟩)⟩
def C8:V->V->Hp->VK->Prop:=λo i H Q=>∃l xs k v,o=.ref l/\i=.int k/\H l=↑(.lst xs)/\0<=k/\xs[k.toNat]?=↑v/\Q v H
theorem C9:nA X C8:=by
 intro pins s σ H o i b c Q I ro V h;obtain⟨l,xs,k,v,rfl,rfl,Y,Z,U,q⟩:=h;cases ro;obtain⟨t,rfl⟩:=V;obtain⟨its,r,pl,d⟩:=I.list (.inl (.inl Y));obtain⟨w,a,D⟩:=r.get U;have e:=(am.mp U).1;have f:=lJ;exact wpAny_getItem_list pl.isList Z ∅ (by simpa using a) ⟨v,H,I,D,q⟩
def oA(i:Nat)(op:D->D->jj)(k:Int)(d v:D)(e:aQ):Option (Fl×aQ):=match e[i]? with
 |some ↑(.ow ds)=>if k.toNat<ds.length then(op d v).map λr=>(.nx,e.set i ↑(.ow (ds.set k.toNat r))) else none
 |_=>none
def vm(i:Nat)(op:D->D->jj)(V Y:FE):FS:=λe=>match e[i]? with
 |some ↑(.ow _)=>(V e).bind λI=>match I.1,I.2[i]? with
   | .int k,↑↑(.ow ds)=>if 0<=k then(ds[k.toNat]?).bind λd=>(Y I.2).bind λU=>oA i op k d U.1 U.2 else none
   |_,_=>none
 |_=>none
theorem CA(z:∀s t d,op s t=↑d->∃u v,s=.int u/\t=.int v/\d=.int (o u v)) :
  ∀Dn σ H,rb X G H0 (vm i op g f) Dn σ H->Bc (iK i) (tD X.K G H0 g) (tD X.K G H0 f) C8 (qF o) BB Dn σ H:=λDn σ H A=>by
 obtain⟨W,env,fl,env',ok,q,k⟩:=A;unfold vm at q;split at q;case h_2=>cases q
 rename_i B c;obtain⟨v,a,l,C,rfl,E,F,_⟩:=ok.slot i _ c;cases e1:g env with
 |none=>rw[e1] at q;cases q
 |some b =>
 obtain⟨dk,env1⟩:=b;rw[e1,ae] at q;dsimp only at q;split at q;case h_2=>cases q
 rename_i kk ds J;split at q;case isFalse=>cases q
 rename_i I;cases e2:ds[kk.toNat]? with
 |none=>rw[e2] at q;cases q
 |some dd =>
 rw[e2,ae] at q;cases e3:f env1 with
 |none=>rw[e3] at q;cases q
 |some r3 =>
 obtain⟨L,x⟩:=r3;rw[e3,ae] at q;unfold oA at q;split at q;case h_2=>cases q
 rename_i M U;split at q;case isFalse=>cases q
 cases e4:op dd L with
 |none=>rw[e4] at q;cases q
 |some dr =>
 rw[e4] at q;cases q;obtain⟨u,w,rfl,rfl,rfl⟩:=z _ _ _ e4;refine⟨_,a,W,env,_,_,ok,e1,λW1 v1 H1 N V b=>?_⟩;obtain⟨O,D,P,e,Q,R,h,j⟩:=V.slot i _ J;rw[a] at D;cases D;cases Q;obtain⟨S,m,n⟩:=j.get e2;refine⟨l,e,kk,S,rfl,b.int_,h,I,m,W1,env1,_,_,V,e3,λT v2 H2 s2 Y r2=>?_⟩;refine⟨u,w,n.int_,r2.int_,?_⟩;obtain⟨O,D,P,p,e6,aa,r,Z⟩:=Y.slot i _ U;rw[a] at D;cases D;cases e6;obtain⟨t1,t2⟩:=Y.turn U a (aI.set ↥(o u w) kk.toNat Z);have y:=Z.length;refine⟨l,p,kk,kk.toNat,rfl,b.int_,r,?_,k T _ _ ((N.trans s2).trans t2) t1⟩;unfold dJ;rw[ax I,ax ∅]
def CB(V:aT X G H0 b g)(Y:aT X G H0 e f)(an:cA Nn Cn X)(U:‹Nn[i]?=↑x›)(Z:∀D I new,augStore b D I new=(do holding [new,D,I] (setItem D I new);release [new,D,I] [];pure .next):=by intros;rfl) :
  eZ X G H0 (.AugAssign (.Subscript (.Name x p') b p1) .Add e pos) (vm i iw g f):=⟨(Be ((an.a U).pe) V.out C9 Y.out Bf vB Z).imp (CA λc j d h=>by
 cases c <;> try (cases h;done)
 all_goals cases j <;> first | (cases h;done) |exact⟨_,_,rfl,rfl,(b9 h).symm⟩)⟩
def CD(V:aT X G H0 b g)(Y:aT X G H0 e f)(an:cA Nn Cn X)(U:‹Nn[i]?=↑x›)(Z:∀D I new,augStore b D I new=(do holding [new,D,I] (setItem D I new);release [new,D,I] [];pure .next):=by intros;rfl) :
  eZ X G H0 (.AugAssign (.Subscript (.Name x p') b p1) .Sub e pos) (vm i bO g f):=⟨(Be ((an.a U).pe) V.out C9 Y.out G0 vB Z).imp (CA λc j d h=>by
 cases c <;> try (cases h;done)
 all_goals cases j <;> first | (cases h;done) |exact⟨_,_,rfl,rfl,(b9 h).symm⟩)⟩
def wZ(I:i0)(e:aQ)(i:Nat):Option (D×aQ):=match e[i]? with
 |some ↑(.ow ds)=>if cE (ds.length+I.length) then ↑(.non,e.set i ↑(.ow (ds++I))) else none
 |_=>none
def rD(i:Nat)(F:FA):FE:=λe=>match e[i]? with
 |some ↑(.ow _)=>(F e).bind λr=>wZ r.1 r.2 i
 |_=>none
def JF(m:f_ X G H0 a F)(an:cA Nn Cn X)(Z:‹Nn[i]?=↑x›)(D:‹attributeBase (.Name x p') "extend" X.env (eval (.Name x p') X.env)=eval (.Name x p') X.env›)(U:((backTo pos (starEach [a] X.env)).all (λx=>!x.1) && (backToKw pos (keywordEach [] X.env)).all (λx=>x.1.isSome)
   && decide ([a].length+([]:List Keyword).length+(if ([]:List Keyword).isEmpty then 0 else 1)<30))=true:=by rfl)(I:‹(p1.endLine==pos.line)=true›)(f:‹starEach [a] X.env=(false,eval a X.env)::starEach [] X.env›) :
  aT X G H0 (.Call (.Attribute (.Name x p') "extend" p1) [a] [] pos) (rD i F):=⟨(y8 f7 PySem.F.slot_list_extend PySem.F.type_list_extend HF ((an.a Z).pe) (oy m.out qt f) D U I f rfl).imp λσ H Q o=>by
 obtain⟨W,env,d,env',ok,q,k⟩:=o;unfold rD at q;split at q;case h_2=>cases q
 rename_i p b;obtain⟨v,c,l,s,rfl,t,e,_⟩:=ok.slot i _ b;cases e1:F env with
 |none=>rw[e1] at q;cases q
 |some r =>
   obtain⟨u,env1⟩:=r;rw[e1,ae] at q;unfold wZ at q;split at q;case h_2=>cases q
   rename_i ds g;split at q;case isFalse=>cases q
   rename_i V;cases q;refine⟨_,c,.inl ⟨rfl,_,.inl (.inl e)⟩,W,env,u,env1,ok,e1,λW1 n us H1 w y Y J z h=>?_⟩;obtain⟨K,j,L,vs,A,M,B,r⟩:=Y.slot i _ g;rw[c] at j;cases j;cases A;obtain⟨C,E⟩:=Y.turn g c (r.append h);refine⟨l,n,vs,us,rfl,rfl,B,z,?_,k _ _ _ (w.trans E) C .non⟩;rw[<-r.length,<-h.length];exact cy V (by rw[ie];decide)⟩
def zc:D->Bool | .tup _=>false | .lst _=>false | .dct _ _=>false |_=>true
def bB.atom{D:ic}{O':Addr->Prop}(r:bB K H O d v)(h:zc d=true):bB D H' O' d v:=by
 cases r with
 |non=>exact .non |bl b=>exact .bl b |int i=>exact .int i
 |str s=>exact .str s |tup _ _=>cases h
 |lst _ _ _=>cases h
 |klst _ _=>cases h
 |dct _ _=>cases h
 |exc a=>exact .exc a
structure oB (X:Cx) (G:Gd) (H0:Hp) (tg:Expr) (e:Expr) (f:FI):Prop where
 out:PI X tg e (qZ X.K G H0 f)
def kY(i:Nat):FI:=λe=>match e[i]? with
 |some ↑(.ow ds)=>↑(ds,e) |some ⇑(.lst ds)=>↑(ds,e) |_=>none
def rE:j0->j0 |some (.sh d)=>⇑d |some (.ow ds)=>⇑(.lst ds) |_=>none
def rF(fi:FI)(ix:g7)(tt:FT)(te:FE):FA:=λe=>(fi e).bind λr=>if cE r.1.length then(qy tt te (ix.map λj=>rE (r.2.getD j none)) r.1).bind λds=>if ds.all zc=true then ↑(ds,r.2) else none else none
def JG(h:iA X G H0 tg e fi):oB X G H0 tg e fi:=⟨h.out.imp λσ H R ⟨W,env,ds,env',ok,q,k⟩ =>
 ⟨W,env,ds,env',ok,q,λW' J H' st D I=>k W' J H' st D I.s⟩⟩
def CF(an:cA Nn Cn X)(I:‹Nn[i]?=↑x›):oB X G H0 tg (.Name x p1) (kY i):=⟨(uW ((an.a I).pe)).imp λσ H R b=>by
 obtain⟨W,env,ds,env',ok,q,k⟩:=b;unfold kY at q;split at q
 ·rename_i ds' U
  cases q;obtain⟨v,V,l,vs,rfl,g,Y,r⟩:=ok.slot i _ U;refine⟨_,V,l,rfl,⟨vs,.inl (.inl Y)⟩,k W _ H Step.refl ok ⟨λH' j d sm e=>?_,λH' sm=>⟨vs,.inl (.inl (sm _ _ Y)),by rw[r.length];exact b6 _⟩⟩⟩;obtain⟨w,Z,c⟩:=(ok.reps (Step.same sm) r).get e;have D:cY X.K H' l vs:=.inl (.inl (sm _ _ Y));exact⟨⟨vs,w,D,Z⟩,λy H'' ⟨e3,z⟩=>⟨e3,by have:=z vs D;rw[Z] at this;cases this;exact c⟩⟩
 ·rename_i ds' U
  cases q;obtain⟨v,V,r⟩:=ok.slot i _ U;obtain⟨l,vs,rfl,h,r⟩:=bB.lst_ r;have f:=Cc ok h r;exact⟨_,V,l,rfl,⟨vs,h.sq⟩,k W _ H Step.refl ok f.s⟩
 ·cases q⟩
def JH(ok:Ok X.K G H0 W env σ H)(r:bB X.K H (Ow G W) d v) :
  Ok X.K (gd λa=>G a\/H a=none) H c_ (⇑d::ix.map λj=>rE (env.getD j none)) (↑v::ix.map λj=>σ.getD j none) H:=by
 have up1:∀(a:Addr) (us:ip),Ow G W a->Rd H a (.lst us)->Ow (gd λa=>G a\/H a=none) c_ a/\Rd H a (.lst us):=λa us o h=>⟨⟨.inl o.1,λz=>z⟩,h⟩;have I:∀ {d:D} {v:V},bB X.K H (Ow G W) d v->bB X.K H (Ow (gd λa=>G a\/H a=none) c_) d v:=λr=>r.mono (λ_ _ h=>h) up1;refine wB (pre:=[⇑d]) (σp:=[↑v]) ok (λa z=>.inr z) rfl (λi s z=>?_) (λU s u z r=>?_) rfl
 ·cases i with
  |zero=>cases z;exact⟨d,v,rfl,rfl,I r⟩
  |succ i=>cases z
 ·cases U <;> cases z
  ·exact⟨_,rfl,I r⟩
  ·obtain⟨l,vs,rfl,Y,Z,b⟩:=r
   exact⟨_,rfl,.lst ⟨.inl (ok.good l (ok.wl l Y).1),λz=>z⟩ (.inl Z) (b.mono (λ_ _ h=>h) up1)⟩
variable{te:FE}
def JJ:∀σ H Q,gO X.K G H0 (rF fi ix tt te) σ H Q->yd (qZ X.K G H0 fi) ix (gH X.K tt) (kR X.K te) σ H Q :=
 Ck (cap:=rE) (pr:=λd=>zc d=true) (λq=>by
  obtain⟨⟨ds,env1⟩,V,q⟩:=cr.mp q;by_cases D:cE ds.length;case neg=>cases (cb D).symm.trans q
  obtain⟨U,Y,q⟩:=cr.mp ((ax D).symm.trans q);split at q;case isFalse=>cases q
  rename_i I;cases q;exact⟨ds,V,D,Y,gl.mp I⟩) λok r=>⟨_,JH ok r,λr3 h=>r3.atom h⟩
def JL(an:cA Nn Cn X)(hi:oB X G H0 (.Name x px) a fi)(I:∀cl C s₂ H₂ fp G H0,cA (x::(aS Nn ix)) (aS Nn ix) (kz X x (aS Nn ix) sc cl C s₂ H₂ fp)->aT (kz X x (aS Nn ix) sc cl C s₂ H₂ fp) G H0 e te)(D:uq Nn Cn ix x sc=true:=by decide +kernel)(U:‹X.calm=true›)(V:∀v,foldedSetIterable a X.env v=pure v:=by intro _;rfl) :
  f_ X G H0 (.ListComp e [⟨.Name x px,a,[],0⟩] sc pos) (j7 fi ix cG te) :=
 ⟨(vR (yl an D) (λ_ _ _ _ _ _ _ _ _=>U) hi.out (λcl C s₂ H₂ fp _=>lY (X:=X) rfl) (λcl C s₂ H₂ fp _=>gI (X:=X) rfl (λG H0=>I cl C s₂ H₂ fp G H0 (vq D))) V).imp wC⟩
def JM(an:cA Nn Cn X)(V:dW Nn X)(hi:oB X G H0 (.Name x px) a fi)(Y:∀cl C s₂ H₂ fp G H0,cA (x::(aS Nn ix)) (aS Nn ix) (kz X x (aS Nn ix) sc cl C s₂ H₂ fp)->aT (kz X x (aS Nn ix) sc cl C s₂ H₂ fp) G H0 e te)(U:uq Nn Cn ix x sc=true:=by decide +kernel)(b:‹X.calm=true›)(I:‹Nn[i]?=↑y›)(Z:‹swapsWith (.ListComp e [⟨.Name x px,a,[],0⟩] sc pos) ↑(.Name y py) spos.line X.env=pure true›)(c:∀v,foldedSetIterable a X.env v=pure v:=by intro _;rfl) :
  PS X (.Assign [.Name y py] (.ListComp e [⟨.Name x px,a,[],0⟩] sc pos) spos) (eX (gO X.K G H0 (j7 fi ix cG te)) (p9 i)) :=
 (nM (yl an U) (λ_ _ _ _ _ _ _ _ _=>b) (V.t I).nd (V.t I).n (V.t I).l hi.out (λcl C s₂ H₂ fp _=>lY (X:=X) rfl) (λcl C s₂ H₂ fp _=>gI (X:=X) rfl (λG H0=>Y cl C s₂ H₂ fp G H0 (vq U))) Z (V.t I).f c).imp λD σ H h=>wC σ H _ h
def JN(an:cA Nn Cn X)(V:dW Nn X)(hi:oB X G H0 (.Name x px) a fi)(Y:∀cl C s₂ H₂ fp G H0,cA (x::(aS Nn ix)) (aS Nn ix) (kz X x (aS Nn ix) sc cl C s₂ H₂ fp)->fV (kz X x (aS Nn ix) sc cl C s₂ H₂ fp) G H0 cd tt)(Z:∀cl C s₂ H₂ fp G H0,cA (x::(aS Nn ix)) (aS Nn ix) (kz X x (aS Nn ix) sc cl C s₂ H₂ fp)->aT (kz X x (aS Nn ix) sc cl C s₂ H₂ fp) G H0 e te)(U:uq Nn Cn ix x sc=true:=by decide +kernel)(c:‹X.calm=true›)(I:‹Nn[i]?=↑y›)(b:‹swapsWith (.ListComp e [⟨.Name x px,a,[cd],0⟩] sc pos) ↑(.Name y py) spos.line X.env=pure true›)(d:∀v,foldedSetIterable a X.env v=pure v:=by intro _;rfl) :
  PS X (.Assign [.Name y py] (.ListComp e [⟨.Name x px,a,[cd],0⟩] sc pos) spos) (eX (gO X.K G H0 (rF fi ix tt te)) (p9 i)) :=
 (nM (yl an U) (λ_ _ _ _ _ _ _ _ _=>c) (V.t I).nd (V.t I).n (V.t I).l hi.out (λcl C s₂ H₂ fp _=>kS (X:=X) rfl (λG H0=>Y cl C s₂ H₂ fp G H0 (vq U))) (λcl C s₂ H₂ fp _=>gI (X:=X) rfl (λG H0=>Z cl C s₂ H₂ fp G H0 (vq U))) b (V.t I).f d).imp λD σ H h=>JJ σ H _ h
def xj(i:Nat):FE:=λe=>match e[i]? with
 |some ↑(.ow ds)=>(cO ds).map λns=>(.int ns.sum,e) |some ⇑(.lst ds)=>(cO ds).map λns=>(.int ns.sum,e) |_=>none
def w_(an:cA Nn Cn X)(Z:‹X.calm=true›)(V:Bn X "sum":=by walk_at "b")(D:‹Nn[i]?=↑x›)(Y:‹starEach [.Name x p1] X.env=(false,eval (.Name x p1) X.env)::starEach [] X.env›):aT X G H0 (.Call (.Name "sum" p') [.Name x p1] [] pos) (xj i) :=
 ⟨(lL (B_ Z) V.g V.m boot_sum (oy ((an.a D).pe) qt Y) (by decide) (by decide) Y rfl).imp λσ H Q b=>by
  obtain⟨W,env,d,env',ok,q,k⟩:=b;unfold xj at q;split at q
  ·rename_i ds I
   cases e2:cO ds with
   |none=>rw[e2] at q;cases q
   |some ns =>
   rw[e2] at q;cases q;cases nV e2;obtain⟨v,U,l,vs,rfl,e,c,r⟩:=ok.slot i _ I;cases nX r;exact⟨_,U,l,ns,rfl,.inl (.inl c),k W _ H Step.refl ok ↥_⟩
  ·rename_i ds I
   cases e2:cO ds with
   |none=>rw[e2] at q;cases q
   |some ns =>
   rw[e2] at q;cases q;cases nV e2;obtain⟨v,U,r⟩:=ok.slot i _ I;obtain⟨l,us,rfl,h,r⟩:=bB.lst_ r;cases nX r;exact⟨_,U,l,ns,rfl,h.sq,k W _ H Step.refl ok ↥_⟩
  ·cases q⟩
def CG(K:ic)(G:Gd)(H0:Hp)(f:FA):TA:=λσ H Q=>DP K G H0 f (λW env ds env' =>
 ∀W' vs H',Step W H W' H'->Ok K G H0 W' env' σ H'->aI K H' G ds vs->Q vs H') σ H
structure rG (X:Cx) (G:Gd) (H0:Hp) (es:h6) (f:FA):Prop where
 out:PA X es (CG X.K G H0 f)
def JO(h:eM X G H0 es F):rG X G H0 es F:=⟨h.out.imp λσ H Q ⟨W,env,ds,env',ok,q,k⟩ =>
 ⟨W,env,ds,env',ok,q,λW' vs H' st D r=>k W' vs H' st D (r.mono (λ_ _ h=>h) λa us o h=>⟨o.1,h⟩)⟩⟩
def rH(i:Nat)(F:FA):FA:=λe=>match e[i]? with
 |some ↑(.ow _)=>(F e).bind λq=>match q.2[i]? with |some ↑(.ow ds)=>↑(.lst ds::q.1,q.2) |_=>none
 |_=>none
def JP(c:rG X G H0 es F)(an:cA Nn Cn X)(I:‹Nn[i]?=↑x›)(d:‹starEach (.Name x p1::es) X.env=(false,eval (.Name x p1) X.env)::starEach es X.env›):rG X G H0 (.Name x p1::es) (rH i F) :=
 ⟨(oy ((an.a I).pe) c.out d).imp λσ H Q e=>by
  obtain⟨W,env,ds,env',ok,q,k⟩:=e;unfold rH at q;split at q;case h_2=>cases q
  rename_i f U;obtain⟨v,Z,l,g,rfl,j,m,_⟩:=ok.slot i _ U;cases e1:F env with
  |none=>rw[e1] at q;cases q
  |some r =>
    obtain⟨V,env1⟩:=r;rw[e1,ae] at q;split at q;case h_2=>cases q
    rename_i n Y;cases q;refine⟨_,Z,W,env,V,_,ok,e1,λW1 vs H1 p D s=>?_⟩;obtain⟨A,b,B,t,u,w,y,z⟩:=D.slot i _ Y;rw[Z] at b;cases b;cases u;exact k W1 _ H1 p D (.cons (.lst (D.good l (D.wl l w).1) (.inl y) (z.mono (λ_ _ h=>h) λa us o h=>⟨o.1,h⟩)) s)⟩
def oD(m:i0->jj)(F:FA):FE:=λe=>(F e).bind λr=>(m r.1).bind λd=>if zc d=true then ↑(d,r.2) else none
variable{E:XK}
def JQ:∀σ H Q,tD X.K G H0 (oD m F) σ H Q->qK (cT X.K m) [] E (CG X.K G H0 F) σ H Q:=λσ H Q U=>by
 obtain⟨W,env,d,env',ok,q,k⟩:=U;unfold oD at q;cases e1:F env with
 |none=>rw[e1] at q;cases q
 |some r =>
   obtain⟨ds,env1⟩:=r;rw[e1,ae] at q;cases e2:m ds with
   |none=>rw[e2] at q;cases q
   |some d' =>
     rw[e2,ae] at q;split at q;case isFalse=>cases q
     rename_i D;cases q;refine⟨W,env,ds,_,ok,e1,λW1 vs H1 V I p1=>?_⟩;show cT X.K m (vs++[]) H1 Q E;rw[c8];exact⟨G,ds,_,p1,e2,λv H2 sm Y=>k W1 v H2 (V.trans (Step.same sm)) (I.same sm) (Y.atom D)⟩
def JR{jr:Nat}(c:b_ X.prog X.w X.K X.mg X.base cD x k (cT X.K m))(V:bE jr X.A)(Y:rG X G H0 (e::es) F)(D:k<=jr:=by decide)(Z:Gl X x:=by walk_at "g")(a:‹starEach (e::es) X.env=(false,eval e X.env)::starEach es X.env›)(I:‹(backTo pos (starEach es X.env)).any (·.1)=false›) :
  aT X G H0 (.Call (.Name x p') (e::es) [] pos) (oD m F):=let ⟨_,_,_,b,d,f,g,U⟩:=c;⟨(qL b (V.mono D) Z d f g .nil qO Y.out U a I).imp JQ⟩
variable{xs:gs}
def xa(h:sc.names.lookup x=some .globalImplicit):Gl (nj X xs N' sc cl C s H fp) x:=wO h
def oE(N cs:gs)(ix:g7)(xs:gs)(sc:Scope):Bool:=decide ((xs++aS N ix).Nodup) && decide (sc.kind=.function) && xs.all (λy=>sc.names.lookup y==some .local) && decide (∀z∈sc.names,z.2≠.cell) && decide (∀z∈sc.names,z.2=.local->sc.names.lookup z.1=some .local) && decide (∀z∈sc.names,z.2=.free->z.1∈aS N ix) && (aS N ix).all (λu=>(sc.names.lookup u==some .free) && cs.elem u) && (xs++aS N ix).all hY
variable{cs:gs}
def JS(hA:cA N cs X)(h:oE N cs ix xs sc=true):BO X xs (aS N ix) ix sc:=by
 unfold oE at h;simp only[fq,jl,gl] at h;obtain⟨⟨⟨⟨⟨⟨⟨h1,h2⟩,I⟩,U⟩,V⟩,Y⟩,D⟩,_⟩:=h;exact⟨by rw[hA.n];rfl,h1,h2,λy Z=>sd (I y Z),U,V,λz a b=>hA.ck z.1 (List.mem_of_elem_eq_true (D z.1 (Y z a b)).2),λu c=>sd (D u c).1⟩
def CH(h:oE N cs ix xs sc=true):cA (xs++aS N ix) (aS N ix) (nj X xs (aS N ix) sc cl C s H fp)/\dW xs (nj X xs (aS N ix) sc cl C s H fp):=by
 unfold oE at h;simp only[fq,jl,gl] at h;obtain⟨⟨⟨⟨⟨⟨⟨h1,h2⟩,D⟩,Y⟩,Z⟩,a⟩,I⟩,U⟩:=h;refine⟨⟨rfl,λi x e=>⟨e,?_,(vj (U x (bn e))).1,(vj (U x (bn e))).2⟩,λu V=>?_⟩,⟨λi x e=>⟨h1,?_,.inl (i9 (sd (D x (bn e)))),.inr (i9 (sd (D x (bn e))))⟩⟩⟩
 ·rcases dc.mp (bn e) with hm |hm
  ·exact .inl (i9 (sd (D x hm)))
  ·exact .inr (lO (sd (I x hm).1))
 ·exact lO (env:=X.env) (sd (I u V).1)
 ·show(xs++aS N ix)[i]?=↑x
  rw[bg (am.mp e).1];exact e
def vn:g7->ip->St->St
 |i::ix,v::vs,σ=>vn ix vs (σ.set i ↑v)
 |_,_,σ=>σ
def CI:∀(ix:g7) (vs:ip) (a b:St),(∀i∈ix,i<a.length)->vn ix vs (a++b)=vn ix vs a++b/\(vn ix vs a).length=a.length
 | [],vs,a,b,_=>by simp[vn] |i::ix,[],a,b,_=>by simp[vn]
 |i::ix,v::vs,a,b,h=>by
   have hi:=h i bi;have D:=CI ix vs (a.set i ↑v) b λj I=>by rw[d7];exact h j (ay _ I)
   rw[vn,vn,List.set_append_left _ _ hi,D.1];exact⟨rfl,by rw[D.2,d7]⟩
def CJ{K:ic}{G:Gd}{W:Addr->Prop}{H0 H:Hp}:∀(ix:g7) (ds:i0) (vs:ip) (env:aQ) (σ:St) (Q:St->Hp->Prop),Ok K G H0 W env σ H->aI K H (Ow G W) ds vs->ds.length=ix.length ->
  (Ok K G H0 W (ql ix ds env) (vn ix vs σ) H->Q (vn ix vs σ) H)->jC ix vs σ H Q
 | [],ds,vs,env,σ,Q,ok,r,hl,k=>by
   cases r with
   |nil=>exact⟨rfl,k ok⟩ |cons _ _=>cases hl
 |i::ix,ds,vs,env,σ,Q,ok,r,hl,k=>by
   cases r with
   |nil=>cases hl
   | @cons d v ds vs r0 r =>
     exact⟨v,vs,rfl,CJ ix ds vs _ _ Q (ok.set r0) r (lx hl) k⟩
def zd(tt:FT)(te:FE)(n:Nat)(base:aQ):i0->Option i0
 | []=>↑[] |d::r=>(kX (List.range n) d (List.replicate n none++base)).bind λe=>(tt e).bind λb=>if b.1=true then(te b.2).bind λv=>(zd tt te n base r).map (v.1::·) else zd tt te n base r
def mx(n:Nat)(fi:FI)(ix:g7)(tt:FT)(te:FE):FA:=λe=>(fi e).bind λr=>if cE r.1.length then(zd tt te n (ix.map λj=>dX (r.2.getD j none)) r.1).map λds=>(ds,r.2) else none
def JT(h:iA X G H0 tg e fi):jU X G H0 tg e fi:=⟨h.out.imp λσ H R ⟨W,env,ds,env',ok,q,k⟩ =>
 ⟨W,env,ds,env',ok,q,λW' J H' st I U=>k W' J H' st I ⟨λD H2 i d s2 e=>⟨(U.go D H2 i d s2 e).1,λx V y=>by
  obtain⟨rfl,r⟩:=(U.go D H2 i d s2 e).2 x V y;exact⟨bG.refl _,r⟩⟩,λD H2 s2=>U.stop D H2 s2⟩⟩⟩
def JU{σp:St}(D:σp.length=n)(ok:Ok X.K G H0 W env σ H) :
  Ok X.K (gd λa=>Ow G W a\/H a=none) H c_ (List.replicate n none++ix.map λj=>dX (env.getD j none)) (σp++ix.map λj=>σ.getD j none) H:=by
 refine wB ok (λa z=>.inr z) (by rw[gn,D]) (λi s z=>?_) (Cf λr=>r.mono (λ_ _ h=>h) λa us o h=>⟨⟨.inl o,λz=>z⟩,h⟩) rfl;cases (List.mem_replicate.mp (bn z)).2
def JW:∀σ H Q,gO X.K G H0 (mx n fi ix tt te) σ H Q->BK n (Cp X.K G H0 fi) (n4 X.K n (jC (List.range n))) ix (gH X.K tt) (kR X.K te) σ H Q:=λσ H Q z=>by
 obtain⟨W,env,d,env',ok,q,k⟩:=z;obtain⟨⟨ds,env1⟩,N,q⟩:=cr.mp q;by_cases f:cE ds.length;case neg=>cases (cb f).symm.trans q
 obtain⟨A,O,q⟩:=fb.mp ((ax f).symm.trans q);cases q;refine⟨W,env,ds,_,ok,N,λW1 J H1 P g B=>⟨iP X.K (Ow G W1) H1 ds d (zd tt te n (ix.map λj=>dX (env1.getD j none))),⟨ds.length,d,[],rfl,f9 _,bG.refl _,.nil,b6 _,O,rfl⟩,λi m H' ys z=>?_⟩⟩;obtain⟨rest,C,R,b,sm,E,hd,c,F⟩:=z;subst R;have V:=g.same sm;by_cases D:i<ds.length
 ·rw[iu D] at c
  obtain⟨S,T⟩:=B.go W1 H' i ds[i] (Step.same sm) (aq D);refine .inr ⟨S,λx l y σp I=>?_⟩;obtain⟨Y,L⟩:=T x l y;have U:=V.same Y;have p:=JU (ix:=ix) I U;obtain⟨aa,Z,c⟩:=cr.mp c;unfold kX at Z;generalize ds[i]=dn at L Z;split at Z;case h_2=>cases Z
  rename_i r;split at Z;case isFalse=>cases Z
  rename_i e;cases Z;obtain⟨s,vs,rfl,ht,M⟩:=L.tup_;refine⟨s,vs,rfl,dV.of ht,by rw[<-M.length,e,jm],CJ (List.range n) r vs _ _ _ p (M.mono (λ_ _ h=>h) λa us o h=>⟨⟨.inl o,λz=>z⟩,h⟩) e λt=>?_⟩;obtain⟨u,v⟩:=CI (List.range n) vs σp (ix.map λj=>σ.getD j none) λj hj=>by rw[I];exact ff.mp hj
  exact⟨vn (List.range n) vs σp,by rw[v,I],u,Ci f D t U (sm.trans Y) (V.reps (Step.same Y) E) hd F c λr3 _=>r3.mono (λ_ _ h=>h) λa us o h=>⟨o.1.elim (λz=>z) λz=>⟨U.good a (U.stay.free z),λw=>by obtain⟨_,us,q⟩:=U.wl a w;rw[z] at q;cases q⟩,h⟩⟩
 ·exact .inl ⟨by cases lj b (ja D);exact B.stop W1 H' (Step.same sm),Cj f b D V P sm E hd F c rfl k⟩
def CK(xs:gs)(an:cA Nn Cn X)(hi:jU X G H0 (.Tuple es k p1) a fi)(Y:∀cl C s₂ H₂ fp,dW xs (nj X xs (aS Nn ix) sc cl C s₂ H₂ fp)->i_ (nj X xs (aS Nn ix) sc cl C s₂ H₂ fp) es (jC (List.range xs.length)))(I:∀cl C s₂ H₂ fp G H0,cA (xs++aS Nn ix) (aS Nn ix) (nj X xs (aS Nn ix) sc cl C s₂ H₂ fp)->aT (nj X xs (aS Nn ix) sc cl C s₂ H₂ fp) G H0 e te)(D:oE Nn Cn ix xs sc=true:=by decide +kernel)(V:‹X.calm=true›)(Z:∀cl C s₂ H₂ fp,(assignEach es (nj X xs (aS Nn ix) sc cl C s₂ H₂ fp).env).length=xs.length:=by intros;rfl)(U:∀cl C s₂ H₂ fp,(assignEach es (nj X xs (aS Nn ix) sc cl C s₂ H₂ fp).env).findIdx? (·.1)=none:=by intros;rfl)(b:∀v,foldedSetIterable a X.env v=pure v:=by intro _;rfl) :
  f_ X G H0 (.ListComp e [⟨.Tuple es k p1,a,[],0⟩] sc pos) (mx xs.length fi ix cG te) :=
 ⟨(H_ (JS an D) V hi.out (λcl C s₂ H₂ fp=>lY (X:=X) rfl) (λcl C s₂ H₂ fp=>gI (X:=X) rfl (λG H0=>I cl C s₂ H₂ fp G H0 (CH D).1)) (λcl C s₂ H₂ fp=>Bb (X:=nj X xs (aS Nn ix) sc cl C s₂ H₂ fp) V (Y cl C s₂ H₂ fp (CH D).2) (Z cl C s₂ H₂ fp) (U cl C s₂ H₂ fp)) b).imp JW⟩
section
variable (P:Program) (w:World)
end
section
variable {X:Cx} {CX:gW} {k:Nat} {f C:Addr} {fd:FuncData} {ps ks:gs} {sp:Sp} {E:XK} {x m:Str} {p pos apos kpos:Pos} {e o:Expr} {es:h6} {kws:List Keyword} {te ta:TE} {t tk:TA} {nm:h7}
variable {g:gu->gu->gu} {gV:ip->ip->ip}
end
section
variable {κ:Type} [DecidableEq κ]
def fD(kvs:List (κ×V))(k:κ):Option V:=(kvs.find? λD=>decide (D.1=k)).map (·.2)
def CL{p:κ×V}{r:List (κ×V)}{k:κ}(e:p.1=k):fD (p::r) k=↑p.2:=by simp[fD,j3,e]
def CM{p:κ×V}{r:List (κ×V)}{k:κ}(e:¬p.1=k):fD (p::r) k=fD r k:=by simp[fD,j3,e]
def eD.getD{o:Option V}{u:gx}{d:V}{d':Value}(r:eD o u)(D:RelV d d'):RelV (o.getD d) (u.getD d'):=by
 cases o with
 |none=>cases u with
   |none=>exact D |some _=>exact(show False from r).elim
 |some _=>cases u with
   |none=>exact(show False from r).elim |some _=>exact r
def KV.val{kvs:List (κ×V)}{vs:List (κ×Value)}(r:KV kvs vs)(k:κ):eD (fD kvs k) (valueAt vs k):=by
 unfold KV at r;induction r with
 |nil=>exact True.intro | @cons p q ps qs h t ih =>
   obtain⟨h1,h2⟩:=h;by_cases e:p.1=k
   ·have e':q.1=k:=h1.symm.trans e
    have b:valueAt (q::qs) k=↑q.2:=by simp[valueAt,j3,e']
    rw[CL e,b];exact h2
   ·have e':¬q.1=k:=λz=>e (h1.trans z)
    have b:valueAt (q::qs) k=valueAt qs k:=by simp[valueAt,j3,e']
    rw[CM e,b];exact ih
def KV.length{kvs:List (κ×V)}{vs:List (κ×Value)}(r:KV kvs vs):kvs.length=vs.length:=Paired.length r
end
variable{u:Value}
def CN{k:dI}(r:RelV (kV k) u):(qu P w).is k u=true:=by
 cases k with
 |inl i=>obtain⟨t,e⟩:=(show ∃t,u=Value.int i t from r);subst e;exact AX P w i t
 |inr x=>obtain⟨t,e⟩:=(show ∃t,u=Value.str x t from r);subst e;exact FQ P w x t
def CO{P:Program}{w:World}:∀ {ks:List dI} {us:gu},aO (ks.map kV) us->ItemsAre (qu P w) ks us
 | [],_,r=>by rw[di] at r;cases r;exact .nil
 |k::ks,_,r=>by
   rw[bq] at r;cases r with
   |cons h t=>exact .cons (CN h) (CO t)
abbrev KT(H:Hp):List (List dI×V)->List (List dI×Addr×Value)->Prop:=Paired λp q=>p.1=q.1/\H q.2.1=↑(.tup (p.1.map kV))/\RelV p.2 q.2.2
variable{kvs:List (List dI×V)}
def KT.val{xs:List (List dI×Addr×Value)}(r:KT H kvs xs)(k:List dI):eD (fD kvs k) ((atKey xs k).map (·.2)):=by
 induction r with
 |nil=>exact True.intro | @cons p q ps qs h t ih =>
   obtain⟨h1,_,h2⟩:=h;by_cases e:p.1=k
   ·have e':q.1=k:=h1.symm.trans e
    have b:atKey (q::qs) k=↑q.2:=by simp[atKey,j3,e']
    rw[CL e,b];exact h2
   ·have e':¬q.1=k:=λz=>e (h1.trans z)
    have b:atKey (q::qs) k=atKey qs k:=by simp[atKey,j3,e']
    rw[CM e,b];exact ih
variable{a:Addr}
def CP{u:HO}(ok:eJ P w H h)(e:Rd H a u):bR P w H h a u:=e.ok ok
def CQ{kvs:List (dI×V)}(ok:eJ P w H h)(e:Rd H a (.dK kvs)):kvs.length<=sizeLine/\(a==sysModules)=false/\∃vs,KV kvs vs/\h.DictOf (qu P w) a vs :=
 show bR P w H h a (.dK kvs) from CP ok e
def CT{ks:List dI}(ok:eJ P w H h)(e:H a=↑(.tup (ks.map kV))):(tupleKind (qu P w)).is h ks a:=by
 obtain⟨_,its,r,o,h1,h2,n,D⟩:=(show bR P w H h a (.tup (ks.map kV)) from ok a _ e);exact⟨o,its.toArray,n,h1,h2,D,by simpa using CO r⟩
def CU(ok:eJ P w H h)(e:Rd H a (.dT kvs)):kvs.length<=sizeLine/\(a==sysModules)=false /\
  ∃xs,KT H kvs xs/\h.DictOfH (tupleKind (qu P w)) a xs:=by
 obtain⟨z,y,xs,r,o,es,D,h1,h2,I,U,Y⟩:=(show bR P w H h a (.dT kvs) from CP ok e);refine⟨z,y,xs,r,o,es,D,h1,h2,I,U,λx hx=>?_,Y⟩;have all:∀ {l:List (List dI×V)} {m:List (List dI×Addr×Value)},KT H l m->∀x∈m,(tupleKind (qu P w)).is h x.1 x.2.1:=by
  intro l m q;induction q with
  |nil=>intro x hx;exact nomatch hx
  | @cons p q ps qs hq t ih =>
    intro x hx;rcases cf.mp hx with e |hx
    ·subst e
     exact CT ok (by rw[<-hq.1];exact hq.2.1)
    ·exact ih x hx
 exact all r x hx
def gR(H:Hp)(a:Addr)(y:V)(r:Option V):Prop :=
 (∃kvs k,Rd H a (.dK kvs)/\y=kV k/\r=fD kvs k)\/∃kvs k b,Rd H a (.dT kvs)/\y=.ref b/\H b=↑(.tup (k.map kV))/\r=fD kvs k
protected def gR.k{H:Hp}{a:Addr}{kvs:List (dI×V)}{k:dI}(e:H a=↑(.dK kvs)):gR H a (kV k) (fD kvs k):=.inl ⟨kvs,k,.inl e,rfl,rfl⟩
def Inv.big(I:Inv X pins σ H s):sysModules<s.heap.objs.size:=by
 have h:mainGlobals<s.heap.objs.size:=(I.mod.glob.keeps I.bk).lt;exact t0 (by decide) h
variable{y:V}{E:Value->Shared->Prop}
def JY(f:A.units+1<cLine)(I:Inv X pins σ H s)(g:gR H a y ↑v)(d:RelV y u)(h:∀V s',Inv X pins σ H s'->RelV v V->Q V s') :
  wpAny (model X.prog X.w) A (getItem (.ref a) u) Q E s:=by
 rcases g with⟨kvs,k,e,Y,l⟩ | ⟨kvs,k,b,e,Y,eb,l⟩
 ·subst Y
  obtain⟨z,hd,vs,D,dd⟩:=CQ I.hok e;obtain⟨V,Z,U⟩:=eD.some_of (v:=v) (o:=valueAt vs k) (by rw[l];exact D.val k);exact wpAny_getItem_of (CN d) dd.mapOf Z (h V _ (I.tok _) U)
 ·subst Y
  cases (show u=Value.ref b from d);obtain⟨z,hd,xs,D,dd⟩:=CU I.hok e;obtain⟨V,Z,U⟩:=eD.some_of (v:=v) (o:=(atKey xs k).map (·.2)) (by rw[l];exact D.val k);obtain⟨p,i,c⟩:=fb.mp Z;refine wpAny_getItem_heap (tupleKind_room_in1 f) (CT I.hok eb) dd i ?_;rw[c];exact h V _ (I.tok _) U
def JZ{h':Heap}{kvs:List (dI×V)}{vs:List (dI×Value)}(z:kvs.length<=sizeLine)(hd:(a==sysModules)=false)(D:KV kvs vs)(dd:h'.DictOf (qu P w) a vs) :
  bR P w H' h' a (.dK kvs):=⟨z,hd,vs,D,dd⟩
def kZ(i:Expr):Prop:=∀D I,subscripted i false D I=operate [D,I] (getItem D I)
def J_{env:Env}{value D:Expr}{T id:String}(a:typeLookup (.type T) "__getitem__" = pure ↑(.builtin id))(b:kZ D)(h:wpAny (model prog w) A (eval value env) (λo U=>wpAny (model prog w) A (eval D env) (λi s₂=>s₂.TypeIs o T/\wpAny (model prog w) A (getItem o i) Q E s₂) E U) E s) :
  wpAny (model prog w) A (eval (.Subscript value D pos) env) Q E s:=by
 refine Subscript_ (iz h (λo U h₁=>iz h₁ (λi s₂ I=>?_) λ_ _ x=>x) λ_ _ x=>x);obtain⟨hT,I⟩:=I;unfold subscriptTail;refine az ?_;rw[getitemInPython_of_ne hT.not_modules];refine az (wpAny_specialOf hT a ?_);have Y:wpAny (model prog w) A (subscripted D false o i) (λr V=>wpAny (model prog w) A (letTemporaryGo value o r >>= λ_=>pure r) Q E V) E s₂:=by
  rw[b o i];exact wpAny_operating (iz I (λr V Z=>az (wpAny_letTemporaryGo (dg Z))) λ_ _ x=>x)
 first
  |exact dg (az Y)
  |exact az (dg (az Y))
  |exact az Y
variable{o:Expr}
def Ka{o:Option V}(I:Inv X pins σ H s)(g:gR H a y o):s.TypeIs (.ref a) "dict":=by
 rcases g with⟨kvs,k,e,_,_⟩ | ⟨kvs,k,b,e,_,_,_⟩
 ·obtain⟨_,_,vs,_,dd⟩:=CQ I.hok e
  exact dd.typeIs
 ·obtain⟨_,_,xs,_,dd⟩:=CU I.hok e
  exact dd.typeIs
def Kb(td ty:TE):TE:=λσ H Q=>td σ H λx H1=>ty σ H1 λy H2=>∃a v,x=.ref a/\gR H2 a y ↑v/\Q v H2
variable{i:Expr}{td ty:TE}
def Kc(Y:X.A.units+1<cLine)(Z:PE X o td)(hi:PE X i ty)(b:kZ i):PE X (.Subscript o i pos) (Kb td ty):=by
 intro pins s σ H Q I h;refine J_ PySem.F.slot_dict_getitem.lookup b (bI (Z pins s σ H _ I h) λu c D=>?_);obtain⟨x,H1,d,e,f⟩:=D;refine bI (hi pins c σ H1 _ d f) λm s2 D=>?_;obtain⟨y,H2,V,j,a,v,ex,g,k⟩:=D;subst ex;obtain rfl:u=Value.ref a:=e;exact⟨Ka V g,JY Y V g j λn p l U=>⟨v,H2,l,U,k⟩⟩
structure M1 (X:Cx) (o:Expr) (m:Str) (apos:Pos) (e:Expr) (cpos:Pos):Prop where
 base:attributeBase o m X.env (eval o X.env)=eval o X.env
 few:((backTo cpos (starEach [e] X.env)).all (λx=>!x.1) && (backToKw cpos (keywordEach [] X.env)).all (λx=>x.1.isSome)
  && decide (([e]:h6).length+([]:List Keyword).length+(if ([]:List Keyword).isEmpty then 0 else 1)<30))=true
 line:(apos.endLine==cpos.line)=true
 trees:backTo cpos (starEach [e] X.env)=[(false,eval e X.env)]
structure M2 (X:Cx) (o:Expr) (m:Str) (apos:Pos) (e f:Expr) (cpos:Pos):Prop where
 base:attributeBase o m X.env (eval o X.env)=eval o X.env
 few:((backTo cpos (starEach [e,f] X.env)).all (λx=>!x.1) && (backToKw cpos (keywordEach [] X.env)).all (λx=>x.1.isSome)
  && decide (([e,f]:h6).length+([]:List Keyword).length+(if ([]:List Keyword).isEmpty then 0 else 1)<30))=true
 line:(apos.endLine==cpos.line)=true
 trees:backTo cpos (starEach [e,f] X.env)=[(false,eval e X.env),(false,eval f X.env)]
end L2
namespace Att
open PySem PySem.W PySem.Calls PyProof.Rows
end Att
namespace L2
open PySem PySem.Spec PyProof.Rows
section
variable {κ:Type} [DecidableEq κ]
end
def Kd:typeLookup (.type "list") "keys" = pure none:=by rw[typeLookup_type,builtinLookup_eq_fast];kernel_rfl
variable{n:Nat}{sl:Array gx}{prog:Program}{w:World}{A:Around}{E:Value->Shared->Prop}{s:Shared}{a:Addr}
theorem Ke{Q:gx->Shared->Prop}{its:ik}(Y:A.handled=none)(V:s.heap.get? a=↑⟨.type "list",none,.seq its n,sl⟩)(Z:∀h' tk,(∀b o,s.heap.get? b=↑o->h'.get? b=↑o)->Q none { s with heap:=h',toks:=tk }):wpAny (model prog w) A (getAttr? (.ref a) "keys") Q E s:=by
 obtain⟨U,g,d,tk,os⟩:=s;have hT:∀D,(⟨U,g,d,D,os⟩:Shared).TypeIs (.ref a) "list":=λ_=>⟨_,V,rfl⟩;have f:=sub_AttributeError;have h:=F.slot_list_getattribute.lookup;have i:=F.slot_list_getattribute.bind (.ref a);have j:=am_list_getattr_none;unfold getAttr? getAttrBy? getAttrBy;repeat (any_goals (first |assumption |exact hT _ |wp_step))
 refine jp (l7 (R:=λr s'=>∃h' D e,r=.error (.ref e)/\Heap.NewAttrErr U h' e (.ref a) "keys"/\s'=⟨h',g,d,D,os⟩) F.slot_list_getattribute.plain am_entry_list_getattribute (F.slot_list_getattribute.check _ _ _ _ _ _ _ _ (hT _) (F.args_list_getattribute_2 _ _)
  (meets_getattribute_miss_list a its n sl "keys" tk Kd (by decide) (by size_fits) prog w A (λr s'=>∃h' D e,r=.error (.ref e)/\Heap.NewAttrErr U h' e (.ref a) "keys"/\s'=⟨h',g,d,D,os⟩) _ ⟨V,Y,λh' D e I=>⟨h',D,e,rfl,I,rfl⟩⟩))) λr s' c=>?_
 obtain⟨h',D,e,rfl,I,rfl⟩:=c;obtain⟨t',k,l⟩:=I.there;show wpAny _ _ (getattributeRaised _ _ _ _ _ _ _) _ _ _;unfold getattributeRaised;repeat (any_goals (first |assumption |wp_step))
 exact Z h' D I.keeps
def CV:entryFor table "dict.update.loop" = ↑Builtin.«dict.update.loop»:=entryFor_of_tree (by kernel_rfl)
abbrev m1:=Addr×Int×Tok×Value
def CW{d it l:Addr}{R:Result->Shared->Prop}(all:List m1)(nd:(all.map (·.2.1)).Nodup)(U:all.length<=sizeLine)(u:it≠l)(f:d≠it)(v:d≠l)(g:∀p∈all,p.1≠it/\p.1≠d) :
  ∀(I pre:List m1) (A:Around) (s:Shared),all=pre++I->A.handled=none->s.heap.IsListIter it l pre.length->s.heap.IsList l (all.map λp=>Value.ref p.1).toArray->(∀p∈all,s.heap.IsTuple p.1 #[.int p.2.1 p.2.2.1,p.2.2.2]) ->
   s.heap.DictOf (qu prog w) d (pre.map λp=>(Sum.inl p.2.1,p.2.2.2)) ->
   (∀h' tk,h'.DictOf (qu prog w) d (all.map λp=>(Sum.inl p.2.1,p.2.2.2))->(∀b o,b≠d->b≠it->s.heap.get? b=↑o->h'.get? b=↑o)->R (.ok (.ret .none)) { s with heap:=h',toks:=tk }) ->
   codeAny (model prog w) A (.builtin "dict.update.loop" ⟨[.ref d,.ref it,rawInt pre.length,.none],[]⟩) R s
 | [],pre,A,s,he,hh,hit,hl,ht,hd,hR=>by
   refine qw CV ?_;rw[Around.under_plain rfl rfl];unfold Builtin.«dict.update.loop»;refine az (wpAny_pyNext_list_end hh hit hl ?_ λh' y=>?_)
   ·rw[he];simp
   ·exact az (dg (dg (hR h' s.toks (by rw[he,c8];exact hd.extBut y f) λb o _ H e=>y b o H e)))
 |p::I,pre,A,s,he,hh,hit,hl,ht,hd,hR=>by
   refine qw CV ?_;rw[Around.under_plain rfl rfl];unfold Builtin.«dict.update.loop»;have h:p∈all:=by rw[he];simp
   refine az (wpAny_pyNext_list_item hit hl (x:=.ref p.1) ?_ λh' V Y=>?_)
   ·rw[he];simp
   ·have J:p∈all:=h
    obtain⟨o,B,K,m,i⟩:=(ht p h).extBut Y.extBut (g p h).1;have j:h'.DictOf (qu prog w) d (pre.map λp=>(Sum.inl p.2.1,p.2.2.2)):=hd.extBut Y.extBut f;have Z:¬((pre.map λp:m1=>((Sum.inl p.2.1:dI),p.2.2.2)).any λC=>decide (C.1=Sum.inl p.2.1))=true:=by
     intro z;obtain⟨C,k,e⟩:=List.any_eq_true.mp z;obtain⟨q,a,rfl⟩:=dz.mp k;have e:q.2.1=p.2.1:=by simpa using e
     rw[he,bh,bq] at nd;exact(ko.mp nd).2.2 _ (dz.mpr ⟨q,a,rfl⟩) _ bi e
    have n:stored (pre.map λp:m1=>((Sum.inl p.2.1:dI),p.2.2.2)) (Sum.inl p.2.1) p.2.2.2=(pre++[p]).map λp=>(Sum.inl p.2.1,p.2.2.2):=by
     unfold stored;rw[cb Z,bh];rfl
    refine az (jc (az (wpAny_tryCatch ?_)));unfold Builtin.Dict.pairItems;refine az (wpAny_typeOf (T:="tuple") ⟨o,B,K⟩ ?_);rw[ax (by decide)];refine az (wpAny_seqItems B i (dg ?_));show wpAny _ _ (holding [.int p.2.1 p.2.2.1,p.2.2.2] (dictSet d (.int p.2.1 p.2.2.1) p.2.2.2)) _ _ _;refine jc (wpAny_dictSet_pairs (knd:=qu prog w) (AX prog w p.2.1 p.2.2.1) j (λh2 c D=>?_) (by rw[ai];rw[he,ak] at U;omega));rw[n] at c;refine dg ⟨Code.quiet_builtin _ (by decide +kernel),?_⟩;have E:=CW all nd U u f v g I (pre++[p]) A { s with heap:=h2,toks:=s.toks+1 } (by rw[he];simp) hh
     (by rw[ak];exact V.extBut D.extBut f.symm) ((hl.extBut Y.extBut u.symm).extBut D.extBut v.symm) (λq a=>((ht q a).extBut Y.extBut (g q a).1).extBut D.extBut (g q a).2) c
     (λL tk r k3=>hR L tk r λb t F G e=>k3 b t F G (D.extBut b t F (Y.extBut b t G e)))
    rw[ak,d5] at E;exact E
theorem Kf{l:Addr}{Q:Value->Shared->Prop}(all:List m1)(nd:(all.map (·.2.1)).Nodup)(f:all.length<=sizeLine)(k:A.handled=none)(m:s.heap.get? l=↑⟨.type "list",none,.seq (all.map λp=>Value.ref p.1).toArray n,sl⟩)(q:∀p∈all,s.heap.IsTuple p.1 #[.int p.2.1 p.2.2.1,p.2.2.2])(h:∀h' tk,h'.DictOf (qu prog w) s.heap.objs.size (all.map λp=>(Sum.inl p.2.1,p.2.2.2))->(∀b o,s.heap.get? b=↑o->h'.get? b=↑o)->Q (.ref s.heap.objs.size) { s with heap:=h',toks:=tk }) :
  wpAny (model prog w) A (call (.type "dict") [.ref l]) Q E s:=by
 refine callType_codes (Q₁:=λobj U=>obj=.ref s.heap.objs.size/\U={ s with heap:=s.heap.push { cls:=.type "dict",data:=.dict #[] } }) F.kt_called_dict (F.kt_typeCall_dict_1 _) F.entry_dict_init (kt_code_dict_new _ ⟨rfl,rfl⟩) ?_;rintro obj U ⟨rfl,rfl⟩;have D:(s.heap.push { cls:=.type "dict",data:=.dict #[] }).DictOf (qu prog w) s.heap.objs.size []:=Heap.DictOf.new s.heap;refine⟨D.typeIs,F.args_dict_init_2 _ _,?_⟩;unfold Builtin.«dict.__init__»;refine az ?_;unfold Builtin.Dict.selfAndRest;refine az (wpAny_notOrdered_dict D.typeIs (show wpAny _ _ (pure (s.heap.objs.size,[Value.ref l])) _ _ _ from dg ?_));show wpAny _ _ (Builtin.Dict.updateFrom "dict.__init__" s.heap.objs.size (.ref l) [] .none) _ _ _;have V:(s.heap.push { cls:=.type "dict",data:=.dict #[] }).get? l=↑⟨.type "list",none,.seq (all.map λp=>Value.ref p.1).toArray n,sl⟩:=av _ m;unfold Builtin.Dict.updateFrom;refine az (wpAny_typeOf (T:="list") ⟨_,V,rfl⟩ ?_);rw[ax (by decide)];refine az (Ke (its:=(all.map λp=>Value.ref p.1).toArray) (n:=n) (sl:=sl) k V λh1 Y k1=>?_);rw[ax (show(none:gx).isNone=true from rfl)];refine az (wpAny_rule ?_);have Z:h1.IsList l (all.map λp=>Value.ref p.1).toArray:=⟨_,k1 _ _ V,rfl,n,rfl⟩;refine az (o6 (s:={ s with heap:=h1,toks:=Y }) Z ?_);refine dg ⟨Code.quiet_builtin _ (by decide +kernel),?_⟩;have I:s.heap.objs.size<h1.objs.size:=by
  obtain⟨o,_,_,a,_⟩:=D;exact bw (k1 _ _ a)
 have c:l<s.heap.objs.size:=bw m;have kp:∀b o,s.heap.get? b=↑o->(h1.push { cls:=.type "list_iterator",data:=.fields #[.ref l,.int 0 0] }).get? b=↑o:=λb o e=>av _ (k1 b o (av _ e));refine CW (d:=s.heap.objs.size) (it:=h1.objs.size) (l:=l) all nd f (kj (t0 c I)) (ce I) (kj c) (λp g=>?_) all [] A.in1 { s with heap:=h1.push { cls:=.type "list_iterator",data:=.fields #[.ref l,.int 0 0] },toks:=Y } rfl k ⟨_,cj _ rfl,rfl,rfl⟩ (Z.push _) (λp g=>(q p g).at λo e=>kp _ o e) ?_ λt i j k3=>?_
 ·obtain⟨o,a,_⟩:=q p g
  have:=bw a;exact⟨ce (t0 this I),ce this⟩
 ·obtain⟨o,es,u,a,r⟩:=D
  exact⟨o,es,u,av _ (k1 _ _ a),r⟩
 ·refine⟨rfl,h t i j λb o e=>?_⟩
  have lt:=bw e;exact k3 b o (ce lt) (ce (t0 lt I)) (kp b o e)
variable{X:Cx}
def CY{pins:ii}{s:Shared}{σ:St}{H:Hp}(I:Inv X pins σ H s):∀ys:List (Addr×Int×V),(∀y∈ys,dV X.K H y.1 [↥y.2.1,y.2.2]) ->
  ∃all:List m1,all.map (·.1)=ys.map (·.1)/\all.map (·.2.1)=ys.map (·.2.1)/\(∀p∈all,s.heap.IsTuple p.1 #[.int p.2.1 p.2.2.1,p.2.2.2])/\KV (ys.map λy=>((Sum.inl y.2.1:dI),y.2.2)) (all.map λp=>((Sum.inl p.2.1:dI),p.2.2.2))
 | [],_=>⟨[],rfl,rfl,λp hp=>by simp at hp,.nil⟩ |y::ys,h=>by
   obtain⟨all,h1,h2,D,U⟩:=CY I ys λz Y=>h z (ay _ Y);obtain⟨its,r,pl,_⟩:=I.tuple (h y bi);obtain⟨u,v,rfl,Z,a⟩:=lK r;obtain⟨t,rfl⟩:∃t,u=.int y.2.1 t:=Z;refine⟨(y.1,y.2.1,t,v)::all,by simp[h1],by simp[h2],λp hp=>?_,.cons ⟨rfl,a⟩ U⟩;rcases cf.mp hp with rfl |hp
   ·exact pl
   ·exact D p hp
def CZ:∀ {as:gy} {us:gu},aO (as.map V.ref) us->us=as.map Value.ref
 | [],_,.nil=>rfl |a::as,_,.cons r t=>by rw[CZ t];cases r;rfl
variable{a:Expr}
def Kg(d:X.calm=true):rq X (.type "dict") (λxs H Q=>∃p,∃ys:List (Addr×Int×V),xs=[.ref p]/\cY X.K H p (ys.map λy=>V.ref y.1)/\(∀y∈ys,dV X.K H y.1 [↥y.2.1,y.2.2])/\(ys.map (·.2.1)).Nodup /\
  ∀a,H a=none->Q (.ref a) (a_ H a (.dK (ys.map λy=>(Sum.inl y.2.1,y.2.2))))):=by
 intro pins s σ H xs us Q I r h;obtain⟨p,ys,rfl,f,g,nd,q⟩:=h;obtain⟨u,rfl,i⟩:=y9 r;cases i;obtain⟨its,b,pl,c⟩:=I.list f;obtain⟨all,h1,h2,j,l⟩:=CY I ys g;have e:its=all.map λp=>Value.ref p.1:=by
  have:ys.map (λy=>V.ref y.1)=(ys.map (·.1)).map V.ref:=by rw[dq];rfl
  rw[this] at b;rw[CZ b,<-h1,dq];rfl
 subst e;have D:all.length=ys.length:=by have:=congrArg List.length h1;simpa using this
 obtain⟨⟨oc,od,m,sl⟩,n,t,U,Y,Z⟩:=pl;cases U;cases Y;cases Z;refine Kf (n:=n) (sl:=sl) all (by rw[h2];exact nd) (by rw[D];simpa using c) (I.ok.hd d) t j λh' tk hd k=>?_;refine⟨.ref s.heap.objs.size,_,I.laid (a:=s.heap.objs.size) (o:=.dK (ys.map λy=>(Sum.inl y.2.1,y.2.2))) (t':=tk) k (b6 _) (JZ (by simpa using c) (beq_eq_false_iff_ne.mpr (Ne.symm (ce I.big))) l hd),rfl,q _ (I.hok.fresh (b6 _))⟩
def dY:i0->Option (List (Int×D))
 | []=>↑[] | .tup [↥k,d]::r=>(dY r).map ((k,d)::·) |_::_=>none
def zb:i0->jj
 | [.lst ds]=>(dY ds).bind λps=>if (ps.map (·.1)).Nodup then ↑(.dct (ps.map (·.1)) (ps.map (·.2))) else none
 |_=>none
def C_{K:ic}{H:Hp}{O:Addr->Prop}:∀ {ds:i0} {vs:ip} {ps:List (Int×D)},dY ds=↑ps->aI K H O ds vs ->
  ∃ys:List (Addr×Int×V),vs=ys.map (λy=>V.ref y.1)/\(∀y∈ys,dV K H y.1 [↥y.2.1,y.2.2])/\ys.map (·.2.1)=ps.map (·.1)/\aI K H O (ps.map (·.2)) (ys.map (·.2.2))
 | [],_,_,h,.nil=>by cases h;exact⟨[],rfl,λy hy=>by simp at hy,rfl,.nil⟩
 |d::ds,_,ps,h,.cons r t=>by
   unfold dY at h;split at h
   ·cases (by assumption:_::_=[])
   ·rename_i k d' U I
    cases I;cases e:dY ds with
    |none=>rw[e] at h;cases h
    |some ps' =>
      rw[e] at h;cases h;obtain⟨ys,h1,h2,Y,Z⟩:=C_ e t;obtain⟨a,us,rfl,b,U⟩:=r.tup_;obtain⟨u,v,rfl,c,f⟩:=lU U;cases c.int_;refine⟨(a,k,v)::ys,by rw[h1];rfl,λy hy=>?_,by simp[Y],.cons f Z⟩;rcases cf.mp hy with rfl |hy
      ·exact dV.of b
      ·exact h2 y hy
   ·cases h
def Da:∀ys:List (Addr×Int×V),(ys.map λy=>((Sum.inl y.2.1:dI),y.2.2))=nN (ys.map (·.2.1)) (ys.map (·.2.2))
 | []=>rfl |y::ys=>by rw[bq,Da ys];rfl
variable{G:Gd}{H0:Hp}
def Kh:xf X G H0 (λxs H Q=>∃p,∃ys:List (Addr×Int×V),xs=[.ref p]/\cY X.K H p (ys.map λy=>V.ref y.1)/\(∀y∈ys,dV X.K H y.1 [↥y.2.1,y.2.2])/\(ys.map (·.2.1)).Nodup /\
  ∀a,H a=none->Q (.ref a) (a_ H a (.dK (ys.map λy=>(Sum.inl y.2.1,y.2.2))))) zb:=by
 intro W env σ H vs ds d Q ok r e k;unfold zb at e;split at e;case h_2=>cases e
 rename_i I;cases e1:dY I with
 |none=>rw[e1] at e;cases e
 |some ps =>
   rw[e1,ae] at e;split at e;case isFalse=>cases e
   rename_i nd;cases e;obtain⟨v,rfl,U⟩:=wd r;obtain⟨l,us,rfl,h,Y⟩:=U.lst_;obtain⟨ys,rfl,h2,D,Z⟩:=C_ e1 Y;refine⟨l,ys,rfl,h.sq,h2,by rw[D];exact nd,λa c=>?_⟩;have sm:bG H (a_ H a (.dK (ys.map λy=>(Sum.inl y.2.1,y.2.2)))):=λb o e=>by rw[jh (rh e c)];exact e
   have st:Step W H W (a_ H a (.dK (ys.map λy=>(Sum.inl y.2.1,y.2.2)))):=Step.same sm;refine k _ _ st (ok.same sm) (.dct (vs:=ys.map (·.2.2)) ?_ (ok.reps st Z));rw[og,Da,D]
def Ki:bootBuiltins "dict" = ↑(.type "dict"):=by decide +kernel
variable{b e:Expr}{F:FA}{pos p':Pos}
def Db(I:eM X G H0 [e] F)(U:‹X.calm=true›)(D:Bn X "dict":=by walk_at "b")(V:‹starEach [e] X.env=(false,eval e X.env)::starEach [] X.env›):aT X G H0 (.Call (.Name "dict" p') [e] [] pos) (e9 zb F) :=
 BY (Kg U) Kh D.g D.m Ki I (by decide) (by decide) V rfl
variable{i:Nat}
def xi:g8->i0->Int->jj
 |k::ks,d::ds,i=>if k=i then ↑d else xi ks ds i
 |_,_,_=>none
def ud:D->D->jj | .dct ks ds,.int i=>xi ks ds i |_,_=>none
def Dc{K:ic}{H:Hp}{O:Addr->Prop}{i:Int}{d:D}:∀ {ks:g8} {ds:i0} {vs:ip},aI K H O ds vs->xi ks ds i=↑d->∃v,fD (nN ks vs) (Sum.inl i)=↑v/\bB K H O d v
 | [],_,_,_,h=>by simp[xi] at h |k::ks,_,_,.nil,h=>by simp[xi] at h |k::ks,_,_,.cons (v:=v) r t,h=>by
   unfold xi at h;by_cases e:k=i
   ·rw[ax e] at h;cases h
    exact⟨v,by simp[nN,fD,e],r⟩
   ·rw[cb e] at h
    obtain⟨w,h1,h2⟩:=Dc t h;refine⟨w,?_,h2⟩;rw[<-h1];simp[nN,fD,e]
variable{x:Str}
def Kj:fM X G H0 (λx y H Q=>∃a v,x=.ref a/\gR H a y ↑v/\Q v H) ud:=by
 intro W env σ H x y U V d Q ok D I e k;unfold ud at e;split at e;case h_2=>cases e
 rename_i ks ds i;cases I.int_;cases D with
 | @dct a _ vs _ ha rr =>
   obtain⟨v,h1,h2⟩:=Dc rr e;exact⟨a,v,rfl,by rw[<-h1];exact gR.k (k:=Sum.inl i) ha,k v H Step.refl ok h2⟩
variable{f g:FE}
def m3{jr:Nat}(D:bE jr X.A)(I:aT X G H0 a f)(U:aT X G H0 b g)(V:kZ b:=by intro _ _;rfl):aT X G H0 (.Subscript a b pos) (aD ud f g) :=
 ⟨(Kc (BJ D) I.out U.out V).imp (nS (r:=λx y H Q=>∃a v,x=.ref a/\gR H a y ↑v/\Q v H) Kj)⟩
def Kk:lN X "list.count" (λx xs H Q=>∃p,∃ns:g8,∃k:Int,x=.ref p/\xs=[↥k]/\cY X.K H p (ns.map V.int)/\Q ↥(ns.count k:Nat) H):=by
 intro pins s σ H x xs v us Q I D U h;obtain⟨p,ns,k,rfl,rfl,Y,q⟩:=h;cases D;obtain⟨u,rfl,Z⟩:=U.one;obtain⟨t,rfl⟩:=Z;obtain⟨its,a,pl,b⟩:=I.list Y;exact count_list_ints pl.isList (B6 a) ⟨.int (ns.count k:Nat),H,I.tok _,⟨_,rfl⟩,q⟩
def m4:D->D->jj | .lst ds,.int k=>(cO ds).map λns=>.int (ns.count k:Nat) |_,_=>none
def Kl{r:V->ip->Hp->VK->Prop}{op:D->D->jj}(c:∀a i d,op a i=↑d->∃ds,a=.lst ds)(j:fM X G H0 (λx y H Q=>r x [y] H Q) op) :
  ∀σ H Q,tD X.K G H0 (aD op f g) σ H Q->BE X.K "list" r (tD X.K G H0 f) (vl (tD X.K G H0 g) jL) σ H Q:=by
 rintro σ H Q ⟨W,env,d,env',ok,e,k⟩;cases e1:f env with
 |none=>simp[aD,e1] at e |some r1 =>
   cases e2:g r1.2 with
   |none=>simp[aD,e1,e2] at e |some r2 =>
     have e:(op r1.1 r2.1).map (λd=>(d,r2.2))=↑(d,env'):=by simpa[aD,e1,e2] using e
     cases e3:op r1.1 r2.1 with
     |none=>rw[e3] at e;cases e
     |some d' =>
       rw[e3] at e;have m:(d',r2.2)=(d,env'):=b9 e;cases m;obtain⟨ds,U⟩:=c _ _ _ e3;refine⟨W,env,r1.1,r1.2,ok,e1,λW1 v1 H1 n I p1=>⟨?_,W1,r1.2,r2.1,r2.2,I,e2,λb v2 H2 s2 Y p2=>?_⟩⟩
       ·rw[U] at p1
        obtain⟨l,us,rfl,h,s⟩:=p1.lst_;exact .inl ⟨rfl,_,h.sq⟩
       ·exact j b _ σ H2 v1 v2 _ _ _ Q Y (I.rep s2 p1) p2 e3 λv o p Z q=>k b v o ((n.trans s2).trans p) Z q
def Km:fM X G H0 (λx y H Q=>∃p,∃ns:g8,∃k:Int,x=.ref p/\[y]=[V.int k]/\cY X.K H p (ns.map V.int)/\Q ↥(ns.count k:Nat) H) m4:=by
 intro W env σ H x y Y Z d Q ok D I e k;unfold m4 at e;split at e;case h_2=>cases e
 rename_i ds i;cases e1:cO ds with
 |none=>rw[e1] at e;cases e
 |some ns =>
   rw[e1] at e;cases e;cases nV e1;obtain⟨l,us,rfl,h,U⟩:=D.lst_;cases nX U;exact⟨l,ns,i,rfl,by rw[I.int_],h.sq,k _ H Step.refl ok ↥_⟩
variable{p1:Pos}
def Kn(Y:aT X G H0 b g)(Z:aT X G H0 a f)(D:‹attributeBase b "count" X.env (eval b X.env)=eval b X.env›)(U:((backTo pos (starEach [a] X.env)).all (λx=>!x.1) && (backToKw pos (keywordEach [] X.env)).all (λx=>x.1.isSome)
   && decide ([a].length+([]:List Keyword).length+(if ([]:List Keyword).isEmpty then 0 else 1)<30))=true:=by rfl)(I:‹(p1.endLine==pos.line)=true›)(V:‹starEach [a] X.env=(false,eval a X.env)::starEach [] X.env›) :
  aT X G H0 (.Call (.Attribute b "count" p1) [a] [] pos) (aD m4 g f):=⟨(y8 f7 PySem.F.slot_list_count PySem.F.type_list_count Kk Y.out (oy Z.out qt V) D U I V rfl).imp
 (Kl (λc e d h=>by unfold m4 at h;split at h;exact⟨_,rfl⟩;cases h) Km)⟩
end L2
namespace L2
open PySem
theorem Dd{i:Nat}{g:FS}(P:Nat->aQ->Prop):∀(ds:i0) (e:aQ) (n:Nat),P n e->(∀(k:Nat) (d:D) (e:aQ),ds[k]?=↑d->P (n+k) e->∃e',g (e.set i ⇑d)=↑(.nx,e')/\P (n+k+1) e') ->
  ∃e',bW i g ds e=↑(.nx,e')/\P (n+ds.length) e'
 | [],e,n,h,_=>⟨e,rfl,h⟩ |d::r,e,n,h,hs=>by
   obtain⟨I,h1,p1⟩:=hs 0 d e rfl h;obtain⟨U,h2,p2⟩:=Dd P r I (n+1) p1 λk d' e' V Y=>by
    have:=hs (k+1) d' e' (by simpa using V) (by rw[<-Nat.add_assoc,Nat.add_right_comm];exact Y);rw[show n+(k+1)+1=n+1+k+1 by lia] at this;exact this
   refine⟨U,?_,by rw[bf,show n+(r.length+1)=n+1+r.length by lia];exact p2⟩;simp[bW,h1,h2]
variable{i:Int}{g:FS}
def uk{i:Nat}(P:Nat->aQ->Prop)(ds:i0)(e:aQ)(h:P 0 e)(I:∀(k:Nat) (d:D) (e:aQ),ds[k]?=↑d->P k e->∃e',g (e.set i ⇑d)=↑(.nx,e')/\P (k+1) e') :
  ∃e',bW i g ds e=↑(.nx,e')/\P ds.length e':=by
 obtain⟨e',h1,h2⟩:=Dd P ds e 0 h λk d e U V=>by
  obtain⟨e',Y,Z⟩:=I k d e U (by simpa using V);exact⟨e',Y,by simpa using Z⟩
 exact⟨e',h1,by simpa using h2⟩
variable{lo:Int}{n:Nat}{d:D}
def uj{k:Nat}(h:(bL lo n)[k]?=↑d):d=.int (lo+k)/\k<n:=by
 unfold bL at h;rw[bj] at h;by_cases D:k<n
 ·rw[i8 D] at h
  exact⟨(b9 h).symm,D⟩
 ·rw[cq (by simpa using D)] at h;cases h
def u4:(bL lo n).length=n:=by simp[bL]
theorem qa(h:-1000000000000<i/\i<1000000000000):n8 i:=⟨by lia,by lia⟩
variable{α:Type}
theorem De{xs:List α}(I:0<=i)(h1:i<xs.length):∃x,bJ xs i=↑x/\xs[i.toNat]?=↑x:=by
 have D:i.toNat<xs.length:=by lia
 exact⟨xs[i.toNat],by unfold bJ dJ;rw[ax I,ax h1];simp[D],by simp[D]⟩
def Ko(a b c:FS):aE (aE a b) c=aE a (aE b c):=by
 funext e;simp;cases a e with
 |none=>rfl |some r=>obtain⟨fl,D⟩:=r;cases fl <;> rfl
variable{ar:Nat}{ds:i0}
def kt{e':aQ}(h:ds.length=ar)(D:g (kr n ds)=↑(.rt d,e')):aR n ar g ds=↑d:=by
 unfold aR;rw[ax h,D]
def few(h:n<=1000000):cE n:=cy h (by decide)
theorem qh(n:Nat)(D:n<=1000000):eV [↥n]=↑(bL 0 n):=by
 unfold eV;dsimp only;rw[ax (show gA _ _ _ from⟨by lia,by lia⟩),ft]
variable{j:Int}
def rJ(h:n8 j):bT ↥i ↥j=↑↥(i*j):=by
 unfold bT;dsimp only;rw[ax (.inr h)]
def wf(h:n8 i):bT ↥i ↥j=↑↥(i*j):=by
 unfold bT;dsimp only;rw[ax (.inl h)]
def yn(h:0<j):aZ ↥i ↥j=↑↥(i % j):=by
 unfold aZ;dsimp only;rw[ax h]
theorem oF(h:0<j)(h2:j<1073741824):bV ↥i ↥j=↑↥(i / j):=by
 unfold bV;dsimp only;rw[ax (show gA _ _ _ from⟨by lia,h2⟩)]
def vt{α:Type}{te:FE}{base:aQ}(φ ψ:α->D):∀(xs:List α),(∀x∈xs,∃e',te (⇑(φ x)::base)=↑(ψ x,e'))->qy cG te base (xs.map φ)=↑(xs.map ψ)
 | [],_=>rfl |x::xs,h=>by
   obtain⟨e',I⟩:=h x bi;have U:=vt φ ψ xs λy V=>h y (ay _ V);simp[qy,I,U]
def rK{α:Type}{tt:FT}{te:FE}{base:aQ}(φ ψ:α->D)(p:α->Bool):∀(xs:List α),(∀x∈xs,∃I,tt (⇑(φ x)::base)=↑(p x,I)/\(p x=true->∃e',te I=↑(ψ x,e')))->qy tt te base (xs.map φ)=↑((xs.filter p).map ψ)
 | [],_=>rfl |x::xs,h=>by
   obtain⟨I,h1,h2⟩:=h x bi;have U:=rK φ ψ p xs λy V=>h y (ay _ V);cases hp:p x with
   |false =>
     simp[qy,h1,U,List.filter_cons,hp]
   |true =>
     obtain⟨e',Y⟩:=h2 hp;simp[qy,h1,Y,U,List.filter_cons,hp]
def xn{α:Type}{te:FA}{base:aQ}(φ:α->D)(ψ:α->i0):∀(xs:List α),(∀x∈xs,∃e',te (⇑(φ x)::base)=↑(ψ x,e'))->mq te base (xs.map φ)=↑(xs.map ψ)
 | [],_=>rfl |x::xs,h=>by
   obtain⟨e',I⟩:=h x bi;have U:=xn φ ψ xs λy V=>h y (ay _ V);simp[mq,I,U]
def x3{α:Type}:∀ {l:List α} {n:Nat} {z:α},l[n]?=↑z->l.Perm (z::l.eraseIdx n)
 |a::l,0,z,h=>by simp at h;subst h;exact .refl _
 |a::l,n+1,z,h=>by
   have D:=x3 (l:=l) (n:=n) (z:=z) (by simpa using h);exact(D.cons a).trans (List.Perm.swap z a _)
def Df{α:Type}:∀ {l:List (List α)} {j:Nat} {s:List α} {x:α},l[j]?=↑s->(l.set j (s++[x])).flatten.Perm (x::l.flatten)
 |a::l,0,s,x,h=>by
   simp at h;subst h;simp only[ao,de,cx,gm];exact lb
 |a::l,j+1,s,x,h=>by
   have D:=Df (l:=l) (j:=j) (s:=s) (x:=x) (by simpa using h);exact(D.append_left a).trans lb
def Dg(a b c:D):bJ [a,b,c] 0=↑a:=rfl
def oG(a b c:D):bJ [a,b,c] 1=↑b:=rfl
def oH(a b c:D):bJ [a,b,c] 2=↑c:=rfl
def Kp(a b c d:D):bJ [a,b,c,d] 0=↑a:=rfl
def Kq(a b c d:D):bJ [a,b,c,d] 1=↑b:=rfl
def Kr(a b c d:D):bJ [a,b,c,d] 2=↑c:=rfl
def Ks(a b c d:D):bJ [a,b,c,d] 3=↑d:=rfl
def Dh{α:Type}{i:Nat}{g:FS}(φ:α->D)(P:List α->aQ->Prop)(all:List α)(I:∀(p:List α) (x:α) (q:List α) (e:aQ),all=p++x::q->P p e->∃e',g (e.set i ⇑(φ x))=↑(.nx,e')/\P (p++[x]) e') :
  ∀(xs pre:List α) (e:aQ),all=pre++xs->P pre e->∃e',bW i g (xs.map φ) e=↑(.nx,e')/\P all e'
 | [],pre,e,h,hp=>⟨e,rfl,by rw[h,c8];exact hp⟩ |x::xs,pre,e,h,hp=>by
   obtain⟨U,h1,p1⟩:=I pre x xs e h hp;obtain⟨V,h2,p2⟩:=Dh φ P all I xs (pre++[x]) U (by rw[h];simp) p1;exact⟨V,by simp[bW,h1,h2],p2⟩
def vp{i:Nat}(φ:α->D)(P:List α->aQ->Prop)(all:List α)(e:aQ)(I:P [] e)(U:∀(p:List α) (x:α) (q:List α) (e:aQ),all=p++x::q->P p e->∃e',g (e.set i ⇑(φ x))=↑(.nx,e')/\P (p++[x]) e') :
  ∃e',bW i g (all.map φ) e=↑(.nx,e')/\P all e':=Dh φ P all U all [] e rfl I
def Kt(h:ds.length=ar)(D:∃e',g (kr n ds)=↑(.rt d,e')):aR n ar g ds=↑d:=by
 obtain⟨e',D⟩:=D;exact kt h D
end L2
namespace L2
open PySem PySem.Spec PyProof.Rows PySem.W
abbrev Ag:=AK×js
abbrev ka:=List Ag
abbrev kb:=Option (D×List Ag)
def kI(x:Ag)(j:Nat):Sl:=.ag x.1 ↑j x.2
def dZ(env:aQ):g7->Option ka
 | []=>↑[] |i::r=>match env[i]? with |some ↑(.ag k _ ps)=>(dZ env r).map λt=>(k,ps)::t |_=>none
def dF(env:aQ):g7->ka->aQ
 |i::r,x::t=>match env[i]? with |some ↑(.ag _ l _)=>dF (env.set i ↑(.ag x.1 l x.2)) r t |_=>dF env r t
 |_,_=>env
def sw(ags:ka):aQ:=ags.zipIdx.map λp=>↑(kI p.1 p.2)
variable{env:aQ}
def zm:∀ {is:g7} {ags:ka} {j i:Nat},dZ env is=↑ags->is[j]?=↑i->∃x l,ags[j]?=↑x/\env[i]?=↑↑(.ag x.1 l x.2)
 |a::r,ags,j,i,h,e=>by
   unfold dZ at h;split at h
   ·rename_i k l ps q
    cases h2:dZ env r with
    |none=>rw[h2] at h;cases h
    |some t =>
      rw[h2] at h;cases h;cases j with
      |zero=>simp at e;subst e;exact⟨(k,ps),l,rfl,q⟩
      |succ j=>obtain⟨x,D,I,U⟩:=zm h2 (by simpa using e);exact⟨x,D,by simpa using I,U⟩
   ·cases h
def m9:∀ {is:g7} {ags:ka},dZ env is=↑ags->ags.length=is.length
 | [],_,h=>by cases h;rfl
 |a::r,ags,h=>by
   unfold dZ at h;split at h
   ·cases h2:dZ env r with
    |none=>rw[h2] at h;cases h
    |some t=>rw[h2] at h;cases h;rw[bf,bf,m9 h2]
   ·cases h
def x4:∀ {is:g7} {ags:ka} {env:aQ},(dF env is ags).length=env.length
 | [],_,_=>by simp[dF] |a::r,[],_=>by simp[dF] |a::r,x::t,env=>by
   unfold dF;split
   ·rw[x4,d7]
   ·rw[x4]
def rL:∀ {is:g7} {ags:ka} {env:aQ} {i:Nat},i∉is->(dF env is ags)[i]?=env[i]?
 | [],_,_,_,_=>by simp[dF] |a::r,[],_,_,_=>by simp[dF] |a::r,x::t,env,i,h=>by
   have h1:a≠i:=λz=>h (by simp[z]);have h2:i∉r:=λz=>h (by simp[z]);unfold dF;split
   ·rw[rL h2,dy h1]
   ·rw[rL h2]
def x5:∀ {is:g7} {ags:ka} {env:aQ} {j i:Nat} {x:Ag} {k:AK} {l:Option Nat} {ps:js},is.Nodup->is[j]?=↑i->ags[j]?=↑x->env[i]?=↑↑(.ag k l ps)->(dF env is ags)[i]?=↑↑(.ag x.1 l x.2)
 |a::r,y::t,env,j,i,x,k,l,ps,nd,e1,e2,e3=>by
   cases j with
   |zero =>
     simp at e1 e2;subst e1;subst e2;unfold dF;rw[e3];rw[rL (c7.mp nd).1,fj (am.mp e3).1]
   |succ j =>
     have hi:a≠i:=λz=>by subst z;exact(c7.mp nd).1 (bn (by simpa using e1))
     unfold dF;split
     ·exact x5 (c7.mp nd).2 (by simpa using e1) (by simpa using e2) (by rw[dy hi];exact e3)
     ·exact x5 (c7.mp nd).2 (by simpa using e1) (by simpa using e2) e3
variable{ags:ka}{j:Nat}{s:Stmt}
def rM{s:Sl}(h:(sw ags)[j]?=↑↑s):∃x,ags[j]?=↑x/\s=kI x j:=by
 unfold sw at h;rw[bj,ju] at h;cases e:ags[j]? with
 |none=>rw[e] at h;cases h
 |some x=>rw[e] at h;cases h;exact⟨x,rfl,by simp⟩
def Di:(sw ags).length=ags.length:=by simp[sw]
def gS(H:Hp)(W:Addr->Prop):Hp:=λa=>open Classical in if W a then none else H a
variable{a:Addr}{W:Addr->Prop}{H:Hp}
def xA(h:W a):gS H W a=none:=ax h
def Dj(h:¬W a):gS H W a=H a:=cb h
variable{o:Expr}
def Dk{o:HO}(h:gS H W a=↑o):¬W a/\H a=↑o:=by
 by_cases z:W a
 ·rw[xA z] at h;cases h
 ·rw[Dj z] at h;exact⟨z,h⟩
def Dl(h:gS H W a=none):W a\/H a=none:=by
 by_cases z:W a
 ·exact .inl z
 ·rw[Dj z] at h;exact .inr h
def cM(H:Hp)(env:aQ)(σ:St)(is:g7):Addr->Prop:=λa=>∃i s v,i∈is/\env[i]?=↑↑s/\σ[i]?=↑↑v/\bS H s v a
variable{is:g7}{K:ic}{G:Gd}{H0:Hp}{σ:St}
def Ok.lentW(ok:Ok K G H0 W env σ H)(h:cM H env σ is a):W a:=by
 obtain⟨i,s,v,_,e,I,o⟩:=h;obtain⟨U,D,q⟩:=ok.slot i s e;rw[I] at D;cases D;exact q.owns o
def xh(G:Gd)(W L:Addr->Prop)(r:Nat->gy):Gd:=⟨λa=>G a/\(W a->L a),r⟩
def Ok.lend(ok:Ok K G H0 W env σ H)(nd:is.Nodup)(g:dZ env is=↑ags) :
  ∃(r:Nat->gy) (us:ip),us.length=is.length/\(∀(j i:Nat),is[j]?=↑i->∃u,us[j]?=↑u/\σ[i]?=↑↑u) /\
   (∀(j i:Nat) (k:AK) (l:Option Nat) (ps:js),is[j]?=↑i->env[i]?=↑↑(.ag k l ps)->∃p as,us[j]?=↑(.ref p)/\jM k (r j) p as/\∀n,l=↑n->jM k (G.r n) p as) /\
   Ok K (xh G W (cM H env σ is) r) (gS H (cM H env σ is)) (cM H env σ is) (sw ags) (us.map some) H:=by
 have F:∀a,cM H env σ is a->W a:=λa=>ok.lentW;have ex:∀j:Nat,∃t:gy×V,∀(i:Nat) (x:Ag) (l:Option Nat),is[j]?=↑i->ags[j]?=↑x->env[i]?=↑↑(.ag x.1 l x.2) ->
   σ[i]?=↑↑t.2/\∃p as us,t.2=.ref p/\jM x.1 t.1 p as/\W p/\(p::as).Nodup/\(∀n,l=↑n->jM x.1 (G.r n) p as)/\dP K H x.1 p us/\bC K G W H x.2 as us:=λj=>by
  cases U:is[j]? with
  |none=>exact⟨([],.non),λi x l e=>by cases e⟩
  |some i =>
    obtain⟨x,l,h1,h2⟩:=zm g U;obtain⟨v,I,p,as,us,Y,hW,M,hl,J,L⟩:=ok.slot i _ h2;refine⟨(match x.1 with | .ins true _ _=>[p] |_=>p::as,v),λN O P z1 z2 z3=>?_⟩;cases z1;rw[h1] at z2;cases z2;rw[h2] at z3;cases z3;refine⟨I,p,as,us,Y,?_,hW,M,hl,J,L⟩;obtain⟨k,ps⟩:=x;cases k with
    |ls=>rfl |ins b c fs=>cases b <;> rfl
 obtain⟨t,f⟩:=Classical.axiomOfChoice ex;have y:=m9 g;refine⟨λj=>(t j).1,(List.range is.length).map λj=>(t j).2,by simp,λj i e=>?_,λj i k l ps I Y=>?_,?_⟩
 ·have U:=(am.mp e).1
  obtain⟨x,l,h1,h2⟩:=zm g e;exact⟨_,by simp[U],(f j i x l e h1 h2).1⟩
 ·have U:=(am.mp I).1
  obtain⟨x,P,h1,h2⟩:=zm g I;rw[Y] at h2;cases h2;obtain⟨q1,p,as,us,A,Q,_,_,q4,_⟩:=f j i x l I h1 Y;exact⟨p,as,by simp[U,A],Q,q4⟩
 ·have own:∀ {j i:Nat} {x:Ag} {l:Option Nat},is[j]?=↑i->ags[j]?=↑x->env[i]?=↑↑(.ag x.1 l x.2)->∀a,bS H (kI x j) (t j).2 a->cM H env σ is a:=λ{j i x l} I Y B a o =>
   ⟨i,_,_,bn I,B,(f j i x l I Y B).1,o⟩
  have cv:∀ {d:D} {v:V},bB K H (Ow G W) d v->bB K H (Ow (xh G W (cM H env σ is) λj=>(t j).1) (cM H env σ is)) d v:=λr =>
   r.mono (λ_ _ h=>h) λa us o h=>⟨⟨⟨o.1,λz=>absurd z o.2⟩,λz=>o.2 (F a z)⟩,h⟩
  have R:∀ {d:i0} {v:ip},aI K H (Ow G W) d v->aI K H (Ow (xh G W (cM H env σ is) λj=>(t j).1) (cM H env σ is)) d v:=λr =>
   r.mono (λ_ _ h=>h) λa us o h=>⟨⟨⟨o.1,λz=>absurd z o.2⟩,λz=>o.2 (F a z)⟩,h⟩
  have pos:∀ {j:Nat} {s:Sl},(sw ags)[j]?=↑↑s->∃i x l,is[j]?=↑i/\ags[j]?=↑x/\env[i]?=↑↑(.ag x.1 l x.2)/\s=kI x j/\(((List.range is.length).map λj=>(t j).2).map some)[j]?=↑↑(t j).2:=λ{j s} e=>by
   obtain⟨x,h1,rfl⟩:=rM e;have U:j<is.length:=by rw[<-y];exact(am.mp h1).1
   obtain⟨O,l,h2,Z⟩:=zm g (show is[j]?=↑is[j] by simp[U]);rw[h1] at h2;cases h2;exact⟨is[j],x,l,by simp[U],h1,Z,rfl,by simp[U]⟩
  refine⟨λa o e=>(Dk e).2,λa e=>?_,λa e=>⟨xA e,(ok.wl a (F a e)).2⟩,λj s e=>?_,λj j' s s' v v' a I Y B e4 o1 o2=>?_,by rw[Di,ai,ai,jm,y]⟩
  ·rcases Dl e with z |z
   ·exact⟨ok.good a (ok.wl a (F a z)).1,λ_=>z⟩
   ·exact⟨ok.good a (ok.stay.free z),λw=>by obtain⟨_,m,q⟩:=ok.wl a w;rw[z] at q;cases q⟩
  ·obtain⟨i,x,l,h1,h2,Z,rfl,S⟩:=pos e
   obtain⟨q1,p,as,us,A,Q,hW,M,q4,J,L⟩:=f j i x l h1 h2 Z;refine⟨_,S,p,as,us,A,own h1 h2 Z p (.inl A),M,λn z=>by cases z;exact Q,J,L.step (λa vs ha z=>⟨own h1 h2 Z a (.inr ⟨p,us,A,J.o,L.parts_iff.mpr ha⟩),z⟩) (λ_ _ r=>cv r) λ_ _ r=>R r⟩
  ·obtain⟨i,x,l,h1,h2,Z,rfl,S⟩:=pos I
   obtain⟨N,O,P,C,T,E,rfl,X⟩:=pos Y;rw[S] at B;cases B;rw[X] at e4;cases e4;have:=ok.uniq i N _ _ _ _ a Z E (f j i x l h1 h2 Z).1 (f j' N O P C T E).1 o1 o2;subst this;exact BP nd h1 C
variable{us:ip}{W':Addr->Prop}{H':Hp}
theorem Ok.unlend(ok:Ok K G H0 W env σ H){I:ka}{r:Nat->gy}{env':aQ}{T:St}(nd:is.Nodup)(hg:dZ env is=↑ags)(hu:∀(j i:Nat),is[j]?=↑i->∃u,us[j]?=↑u/\σ[i]?=↑↑u)(X:∀(j i:Nat) (k:AK) (l:Option Nat) (ps:js),is[j]?=↑i->env[i]?=↑↑(.ag k l ps)->∃p as,us[j]?=↑(.ref p)/\jM k (r j) p as/\∀n,l=↑n->jM k (G.r n) p as)(hl:I.length=is.length)(ac:∀(j:Nat) (x y:Ag),ags[j]?=↑x->I[j]?=↑y->y.1=x.1)(st:Step (cM H env σ is) H W' H')(F:Ok K (xh G W (cM H env σ is) r) (gS H (cM H env σ is)) W' env' T H')(g:∀(j:Nat) (x:Ag),I[j]?=↑x->env'[j]?=↑↑(kI x j)) :
  Ok K G H0 (λa=>W' a\/(W a/\¬cM H env σ is a)) (dF env is I) σ H'/\Step W H (λa=>W' a\/(W a/\¬cM H env σ is a)) H' /\
   (∀ {d:D} {v:V},bB K H' (Ow (xh G W (cM H env σ is) r) W') d v->bB K H' (Ow G (λa=>W' a\/(W a/\¬cM H env σ is a))) d v):=by
 have lW:∀a,cM H env σ is a->W a:=λa=>ok.lentW;have P:∀a,W' a->cM H env σ is a\/H a=none:=st.ws;have n':∀a,W' a->W a->cM H env σ is a:=λa h w=>(P a h).elim id λz=>by obtain⟨_,m,q⟩:=ok.wl a w;rw[z] at q;cases q
 have aa:Step W H (λa=>W' a\/(W a/\¬cM H env σ is a)) H':=⟨λb o e n=>st.keep b o e λz=>n (lW b z),λa z=>by
  rcases z with z |z
  ·exact(P a z).imp (lW a) id
  ·exact .inl z.1⟩
 have back:∀ {j i:Nat} {y:Ag} {k:AK} {l:Option Nat} {ps:js},is[j]?=↑i->I[j]?=↑y->env[i]?=↑↑(.ag k l ps) ->
   ∃u p as vs,σ[i]?=↑↑u/\T[j]?=↑↑u/\u=.ref p/\W' p/\(p::as).Nodup/\(∀n,l=↑n->jM y.1 (G.r n) p as)/\dP K H' y.1 p vs/\bC K (xh G W (cM H env σ is) r) W' H' y.2 as vs:=λ{j i y k l ps} Y E J=>by
  obtain⟨x,l',h1,h2⟩:=zm hg Y;rw[J] at h2;cases h2;obtain⟨v,O,p,as,vs,rfl,hW,n1,hr,hk,hp⟩:=F.slot j _ (g j y E);obtain⟨u,M,N⟩:=hu j i Y;obtain⟨p0,Q,S,t,z5⟩:=X j i _ _ _ Y J;rw[M] at S;cases S;have hy:=ac j x y h1 E;have Z:jM y.1 (r j) p as:=hr j rfl;have same:p=p0/\(as=Q\/∃c fs,y.1=.ins true c fs):=by
   rw[<-hy] at t;generalize y.1=kk at Z t;cases kk with
   |ls=>have Z:r j=p::as:=Z;have t:r j=p0::Q:=t;rw[Z] at t;cases t;exact⟨rfl,.inl rfl⟩
   |ins b c fs =>
     cases b with
     |true=>have Z:r j=[p]:=Z;have t:r j=[p0]:=t;rw[Z] at t;cases t;exact⟨rfl,.inr ⟨c,fs,rfl⟩⟩
     |false=>have Z:r j=p::as:=Z;have t:r j=p0::Q:=t;rw[Z] at t;cases t;exact⟨rfl,.inl rfl⟩
  obtain⟨rfl,hs⟩:=same;refine⟨_,p,as,vs,N,O,rfl,hW,n1,λn hn=>?_,hk,hp⟩;have z6:=z5 n hn;rw[<-hy] at z6;rcases hs with rfl | ⟨c,fs,q⟩
  ·exact z6
  ·rw[q] at z6 ⊢;exact z6
 have up:∀(a:Addr) (us:ip),Ow (xh G W (cM H env σ is) r) W' a->Rd H' a (.lst us)->Ow G (λa=>W' a\/(W a/\¬cM H env σ is a)) a/\Rd H' a (.lst us):=λa us o h=>⟨⟨o.1.1,λz=>z.elim o.2 λy=>y.2 (o.1.2 y.1)⟩,h⟩;have cv:∀ {d:D} {v:V},bB K H' (Ow (xh G W (cM H env σ is) r) W') d v->bB K H' (Ow G (λa=>W' a\/(W a/\¬cM H env σ is a))) d v:=λrp=>rp.mono (λ_ _ h=>h) up;have an:∀ {d:i0} {v:ip},aI K H' (Ow (xh G W (cM H env σ is) r) W') d v->aI K H' (Ow G (λa=>W' a\/(W a/\¬cM H env σ is a))) d v:=λrp=>rp.mono (λ_ _ h=>h) up;have A:∀ {i:Nat} {s:Sl} {v:V},i∉is->env[i]?=↑↑s->σ[i]?=↑↑v->∀a,bS H s v a->W a/\¬cM H env σ is a:=λ{i s v} hi e Y a o=>by
  obtain⟨v',E,q⟩:=ok.slot i s e;rw[Y] at E;cases E;refine⟨q.owns o,λz=>?_⟩;obtain⟨i',s',v',B,M,N,S⟩:=z;exact hi ((ok.uniq i i' s s' _ _ a e M Y N o S) ▸ B)
 have R:∀ {i:Nat} {s:Sl} {v:V},i∉is->env[i]?=↑↑s->σ[i]?=↑↑v->∀a (m:Mo),bS H s v a->H a=↑m.out->(W' a\/(W a/\¬cM H env σ is a))/\H' a=↑m.out:=λ{i s v} hi e Y a m o q=>by
  have z:=A hi e Y a o;exact⟨.inr z,st.keep a _ q z.2⟩
 have C:∀ {i:Nat} {s:Sl} {v:V} {a:Addr},i∉is->env[i]?=↑↑s->σ[i]?=↑↑v->bS H' s v a->bS H s v a:=λ{i s v a} hi e Y o=>by
  obtain⟨v',E,q⟩:=ok.slot i s e;rw[Y] at E;cases E;refine q.back (λl z w m N=>?_) o;refine st.keep l _ N λy=>?_;obtain⟨i',s',v',B,M,S,t⟩:=y;have ol:bS H s v l:=by
   cases s with
   |sh d=>exact o.elim |ow ds=>exact z |o2 dss=>exact .inl z |ag k r ps=>exact .inl z |al _ _=>exact o.elim |ro _ _=>exact o.elim
  exact hi ((ok.uniq i i' s s' _ _ l e M Y S ol t) ▸ B)
 have U:∀ {i:Nat} {s:Sl},(dF env is I)[i]?=↑↑s->(i∉is/\env[i]?=↑↑s)\/∃(j:Nat) (y:Ag) (k:AK) (l:Option Nat) (ps:js),is[j]?=↑i/\I[j]?=↑y/\env[i]?=↑↑(.ag k l ps)/\s=.ag y.1 l y.2:=λ{i s} e=>by
  by_cases hi:i∈is
  ·obtain⟨j,hj,ej⟩:=lr hi
   have Y:is[j]?=↑i:=by simp[hj,ej]
   obtain⟨x,l,h1,h2⟩:=zm hg Y;have h3:I[j]?=↑(I[j]'∅):=by simp[hl,hj]
   rw[x5 nd Y h3 h2] at e;cases e;exact .inr ⟨j,_,_,l,_,Y,h3,h2,rfl⟩
  ·rw[rL hi] at e;exact .inl ⟨hi,e⟩
 refine⟨⟨λb o e=>?_,ok.good,λa z=>?_,λi s e=>?_,λi i' s s' v v' a Y E J O o1 o2=>?_,by rw[x4];exact ok.len⟩,aa,cv⟩
 ·exact st.keep b o (ok.stay b o e) λz=>by rw[(ok.wl b (lW b z)).1] at e;cases e
 ·rcases z with z |z
  ·refine⟨?_,(F.wl a z).2⟩
   rcases P a z with y |y
   ·exact(ok.wl a (lW a y)).1
   ·exact ok.stay.free y
  ·obtain⟨q,m,hm⟩:=ok.wl a z.1
   exact⟨q,m,st.keep a _ hm z.2⟩
 ·rcases U e with⟨hi,e⟩ | ⟨j,y,k,l,ps,Y,E,J,rfl⟩
  ·obtain⟨v,Y,q⟩:=ok.slot i s e
   exact⟨v,Y,ok.slstep aa q (R hi e Y)⟩
  ·obtain⟨u,p,as,vs,L,_,rfl,hW,n1,ap,hk,hp⟩:=back Y E J
   exact⟨_,L,p,as,vs,rfl,.inl hW,n1,ap,hk,hp.step (λa ws ha z=>⟨.inl (hp.own ha).1,z⟩) (λ_ _ r=>cv r) λ_ _ r=>an r⟩
 ·rcases U Y with⟨hi,f1⟩ | ⟨j,y,k,l,ps,f1,f2,f3,rfl⟩ <;> rcases U E with⟨B,f⟩ | ⟨j',y',k',l',ps',f,f2',f3',rfl⟩
  ·exact ok.uniq i i' s s' v v' a f1 f J O (C hi f1 J o1) (C B f O o2)
  ·exfalso
   obtain⟨M,N⟩:=A hi f1 J a (C hi f1 J o1);obtain⟨u,p,as,vs,L,q2,_⟩:=back f f2' f3';rw[O] at L;cases L;obtain⟨v0,w1,w2⟩:=F.slot j' _ (g j' y' f2');rw[q2] at w1;cases w1;exact N (n' a (w2.owns o2) M)
  ·exfalso
   obtain⟨M,N⟩:=A B f O a (C B f O o2);obtain⟨u,p,as,vs,L,q2,_⟩:=back f1 f2 f3;rw[J] at L;cases L;obtain⟨v0,w1,w2⟩:=F.slot j _ (g j y f2);rw[q2] at w1;cases w1;exact N (n' a (w2.owns o1) M)
  ·obtain⟨u,p,as,vs,L,q2,_⟩:=back f1 f2 f3
   obtain⟨u',p',a0,vs',ab,ar,_⟩:=back f f2' f3';rw[J] at L;cases L;rw[O] at ab;cases ab;have:=F.uniq j j' _ _ _ _ a (g j y f2) (g j' y' f2') q2 ar o1 o2;subst this;rw[f1] at f;cases f;rfl
def fH(P:Program)(w:World)(K:ic)(mg:Str->gx)(base:Heap)(cn m:Str)(k:Nat)(sp:Sp):Prop :=
 ∃C fa fd ps,hB K C/\iM K C m fa/\cJ P w K mg base (dM P w) k fa fd ps sp/\Binds K fd ps []/\Cl K cn C
def oI(K:ic)(cn m:Str):Prop:=∃C,hB K C/\eL K C m/\Cl K cn C
def k_(P:Program)(w:World)(K:ic)(mg:Str->gx)(base:Heap)(x:Str)(k:Nat)(sp:Sp):Prop :=
 ∃C fa fd ps,Mk K C fa/\cJ P w K mg base (dM P w) k fa fd ps sp/\mg x=↑(.ref C)/\Binds K fd ps []/\Cl K x C/\(x==("__debug__" : Str))=false
def iI(X:Cx)(σ:St):XK:=λcls _ H'=>∀pins H s C ea s',cls=.ref C->Inv X pins σ H s->iB X.prog X.w X.stack H s C ea H' s'->X.xe (.ref ea) s'
variable{Q:VK}{vs:ip}{X:Cx}{k:Nat}{f:Addr}{fd:FuncData}{ps:gs}{sp:Sp}
theorem xB{pins:ii}{s:Shared}{us:gu}(F:cJ X.prog X.w X.K X.mg X.base (dM X.prog X.w) k f fd ps sp)(V:bE k X.A)(Y:Binds X.K fd ps [])(I:Inv X pins σ H s)(r:aO vs us)(h:sp vs H Q (iI X σ)):wpAny (model X.prog X.w) X.A (call (.ref f) us) (EP X pins σ Q) X.xe s:=by
 have Z:(us++[]).length=ps.length:=by rw[c8,<-r.length];exact F.len _ _ _ _ h
 have U:=Y s us I.kIn Z;rw[c8] at U;refine nk (jp (F.run X.A X.stack s H ⟨us,[]⟩ us vs Q (iI X σ) V I.env0 U r h) λr s' D=>?_);cases r with
 |error e =>
   obtain⟨ea,C,H',rfl,fl,z⟩:=D;exact z pins H s C ea s' rfl I fl
 |ok fl =>
   cases fl with
   |ret u=>exact I.after D |next=>exact False.elim D |brk=>exact False.elim D |cont=>exact False.elim D
def Ku(X:Cx)(sp:Sp)(t:TA):TE:=λσ H Q=>t σ H λvs H1=>sp vs H1 Q (iI X σ)
variable{x:Str}{p pos:Pos}{e:Expr}{es:h6}{t:TA}
def xC(F:cJ X.prog X.w X.K X.mg X.base (dM X.prog X.w) k f fd ps sp)(Y:bE k X.A)(Z:Gl X x)(a:X.mg x=↑(.ref f))(b:PySem.W.keepIn X.K (.ref f)=true)(c:Binds X.K fd ps [])(d:PA X (e::es) t)(D:(x==("__debug__" : Str))=false:=by decide)(g:‹starEach (e::es) X.env=(false,eval e X.env)::starEach es X.env›)(U:‹(backTo pos (starEach es X.env)).any (·.1)=false›) :
  PE X (.Call (.Name x p) (e::es) [] pos) (Ku X sp t):=by
 intro pins s σ H Q I h;refine i4 (zk I Z a ?_ D);refine j5 (h₀:=X.base) I.ok.mod.kin b (bI (d pos pins s σ H _ I h) λus j i=>?_) g U;obtain⟨vs,H1,V,r,q⟩:=i;refine⟨V.kIn,?_⟩;exact xB F Y c V r q
def rN(X:Cx)(C:Addr)(m:Str)(sp:Sp)(ta:TE)(t:TA):TE:=λσ H Q=>ta σ H λx H1=>∃a dx fs,x=.ref a/\H1 a=↑(.ins C dx fs)/\fs.lookup m=none/\t σ H1 λvs H2=>sp (x::vs) H2 Q (iI X σ)
variable{C:Addr}{m:Str}{apos:Pos}{ta:TE}
def rO{pl:Sem Bool}(d:PE X o ta)(c:hB X.K C)(Y:iM X.K C m f)(F:cJ X.prog X.w X.K X.mg X.base (dM X.prog X.w) k f fd ps sp)(g:bE k X.A)(i:Binds X.K fd ps [])(j:PA X (e::es) t)(D:‹starEach (e::es) X.env=(false,eval e X.env)::starEach es X.env›)(U:‹(backTo pos (starEach es X.env)).any (·.1)=false›)(n:eval (.Call (.Attribute o m apos) (e::es) [] pos) X.env=(do
   let ov <-eval o X.env
   standAt apos.atName
   let (f,first) <-holding [ov] (getMethod ov m pl)
   callWith pos f first (backTo pos (starEach (e::es) X.env)) (backToKw pos (keywordEach [] X.env))):=by rfl) :
  PE X (.Call (.Attribute o m apos) (e::es) [] pos) (rN X C m sp ta t):=by
 intro pins s σ H Q I h;refine PySem.W.methodCall_KW (pl:=pl) (bI (d pins s σ H _ I h) λu p V=>?_) n;obtain⟨x,H1,Z,v,a,dx,fs,ex,ea,l,q⟩:=V;subst ex;obtain rfl:u=Value.ref a:=v;refine Bx Z ea c Y l ?_;refine j5 (first:=[.ref a]) (h₀:=X.base) I.ok.mod.kin Y.kp (bI (j pos pins p σ H1 _ Z q) λus s2 V=>?_) D U;obtain⟨vs,H2,b,r,y⟩:=V;refine⟨b.kIn,?_⟩;exact xB (us:=.ref a::us) (vs:=.ref a::vs) F g i b (.cons rfl r) y
def Kv{pl:Sem Bool}(V:PE X o ta)(c:hB X.K C)(U:iM X.K C m f)(F:cJ X.prog X.w X.K X.mg X.base (dM X.prog X.w) k f fd ps sp)(Y:bE k X.A)(Z:Binds X.K fd ps [])(b:eval (.Call (.Attribute o m apos) [] [] pos) X.env=(do
   let ov <-eval o X.env
   standAt apos.atName
   let (f,first) <-holding [ov] (getMethod ov m pl)
   callWith pos f first (backTo pos (starEach [] X.env)) (backToKw pos (keywordEach [] X.env))):=by rfl) :
  PE X (.Call (.Attribute o m apos) [] [] pos) (rN X C m sp ta jL):=by
 intro pins s σ H Q I h;refine PySem.W.methodCall_KW (pl:=pl) (bI (V pins s σ H _ I h) λu g d=>?_) b;obtain⟨x,H1,D,e,a,dx,fs,ex,ea,l,q⟩:=d;subst ex;obtain rfl:u=Value.ref a:=e;refine Bx D ea c U l ?_;exact PySem.W.callWith_K0 (first:=[.ref a]) D.kIn U.kp (xB (us:=[.ref a]) (vs:=[.ref a]) F Y Z D (.cons rfl .nil) q)
def Kw(X:Cx)(C:Addr)(sp:Sp)(t:TA):TE:=λσ H Q=>t σ H λvs H1=>∀x dx,H1 x=none->H1 dx=none->dx≠x ->
 sp (.ref x::vs) (a_ (a_ H1 dx (.own x)) x (.ins C dx [])) (λv H2=>v=.non/\Q (.ref x) H2) (iI X σ)
theorem Kx(M:Mk X.K C f)(F:cJ X.prog X.w X.K X.mg X.base (dM X.prog X.w) k f fd ps sp)(g:bE (k+1) X.A)(i:Gl X x)(j:X.mg x=↑(.ref C))(l:Binds X.K fd ps [])(m:PA X (e::es) t)(Y:(x==("__debug__" : Str))=false:=by decide)(n:‹starEach (e::es) X.env=(false,eval e X.env)::starEach es X.env›)(Z:‹(backTo pos (starEach es X.env)).any (·.1)=false›) :
  PE X (.Call (.Name x p) (e::es) [] pos) (Kw X C sp t):=by
 intro pins o σ H0 Q a q;refine i4 (zk a i j ?_ Y);refine j5 (h₀:=X.base) a.ok.mod.kin M.kp (bI (m pos pins o σ H0 _ a q) λus s y=>?_) n Z;obtain⟨vs,H,I,r,h⟩:=y;refine⟨I.kIn,?_⟩;have b:=h (s.heap.objs.size+1) s.heap.objs.size (I.hok.fresh (mv _)) (I.hok.fresh (b6 _)) (ce (f8 _));have U:=Inv.made (C:=C) I;have c:aO (V.ref (s.heap.objs.size+1)::vs) (Value.ref (s.heap.objs.size+1)::us):=.cons rfl r;have B:((Value.ref (s.heap.objs.size+1)::us)++[]).length=ps.length:=by rw[c8,<-c.length];exact F.len _ _ _ _ b
 have d:=l ⟨_,s.gens,s.drawn,s.toks,s.os⟩ (Value.ref (s.heap.objs.size+1)::us) U.kIn B;rw[c8] at d;refine nk (GV (f:=f) I.kIn M.makes M.init (l8.mp M.fn) (jp (F.run _ X.stack _ _ ⟨Value.ref (s.heap.objs.size+1)::us,[]⟩ (Value.ref (s.heap.objs.size+1)::us) _ _ (iI X σ) (g.make C us [])
  (U.env0.make C us []) d c b) λr s' D=>?_))
 cases r with
 |error e =>
   obtain⟨ea,E,H',rfl,fl,z⟩:=D;exact z pins _ _ E ea s' rfl U fl
 |ok fl =>
   cases fl with
   |ret u =>
     obtain⟨v,H',G,J,L,N⟩:=U.after D;subst L;exact⟨J,⟨V.ref (s.heap.objs.size+1),H',G,rfl,N⟩⟩
   |next=>exact False.elim D |brk=>exact False.elim D |cont=>exact False.elim D
abbrev XF:=aQ->Option (Str×aQ)
def xD(X:Cx)(G:Gd)(H0:Hp)(W:Addr->Prop)(H:Hp)(σ:St)(c:Str)(env':aQ):Prop:=∀W' H' C,Cl X.K c C->Step W H W' H'->Ok X.K G H0 W' env' σ H'->∀pins e s',XS X pins σ H' C e s'->X.xe (.ref e) s'
def jD(X:Cx)(G:Gd)(H0:Hp)(x:XF)(σ:St)(H:Hp):Prop:=DP X.K G H0 x (λW env c env'=> xD X G H0 W H σ c env') σ H
structure JX (X:Cx) (G:Gd) (H0:Hp) (e:Expr) (x:XF):Prop where
 out:PE X e (λσ H _=>jD X G H0 x σ H)
structure mB (X:Cx) (G:Gd) (H0:Hp) (es:h6) (x:XF):Prop where
 out:PA X es (λσ H _=>jD X G H0 x σ H)
structure oJ (X:Cx) (G:Gd) (H0:Hp) (s:Stmt) (x:XF):Prop where
 out:PS X s (λ_ σ H=>jD X G H0 x σ H)
@[simp] def cQ(x:XF)(g:FS):FS:=λe=>match x e with |some r=>↑(.xc r.1,r.2) |none=>g e
@[simp] def uc(f:FE)(x:XF):XF:=λe=>(f e).bind λr=>x r.2
variable{f:FE}{x:XF}
def Ky(h:jD X G H0 (uc f x) σ H)(U:∀v H1,jD X G H0 x σ H1->Q v H1):tD X.K G H0 f σ H Q:=by
 obtain⟨W,env,c,env',ok,q,k⟩:=h;cases e1:f env with
 |none=>simp[e1] at q |some r =>
   have q:x r.2=↑(c,env'):=by simpa[uc,e1] using q
   exact⟨W,env,r.1,r.2,ok,e1,λW1 v H1 V D _=>U v H1 ⟨W1,r.2,c,env',D,q,λW' H' C Y s2 I=>k W' H' C Y (V.trans s2) I⟩⟩
variable{g:FS}
def nz(V:eZ X G H0 s g)(Y:oJ X G H0 s x):eZ X G H0 s (cQ x g):=⟨λpins s' σ H D I Z=>by
 obtain⟨W,env,fl,env',ok,q,k⟩:=Z;unfold cQ at q;cases e1:x env with
 |none=>rw[e1] at q;exact V.out pins s' σ H D I ⟨W,env,fl,env',ok,q,k⟩ |some r =>
   rw[e1] at q;cases q;exact Y.out pins s' σ H D I ⟨W,env,r.1,r.2,ok,e1,λW' H' C a st U=>k W' σ H' C a st U⟩⟩
def wp(h:JX X G H0 e x)(D:‹swapsWith e none pos.line X.env=pure false›):oJ X G H0 (.Expr e pos) x:=⟨(A_ h.out D).imp λ_ _ _ z=>z⟩
def ym(h:JX X G H0 e x):oJ X G H0 (.Return ↑e pos) x:=⟨(n2 h.out).imp λ_ _ _ z=>z⟩
variable{Nn:gs}{y:Str}{p':Pos}{i:Nat}
def oK(I:dW Nn X)(h:JX X G H0 e x)(D:‹Nn[i]?=↑y›)(U:‹swapsWith e ↑(.Name y p') pos.line X.env=pure false›) :
  oJ X G H0 (.Assign [.Name y p'] e pos) x:=⟨(qE (I.t D).nd (I.t D).n (I.t D).l h.out U (I.t D).f).imp λ_ _ _ z=>z⟩
def oM(D:aT X G H0 e f)(U:mB X G H0 es x)(V:‹starEach (e::es) X.env=(false,eval e X.env)::starEach es X.env›):mB X G H0 (e::es) (uc f x):=⟨λpos pins s σ H Q I h=>(oy D.out U.out V) pos pins s σ H Q I (Ky h λ_ _ z=>z)⟩
variable{c:Str}
def Cl.inj{D:Addr}(h:Cl K c C)(h':Cl K c D):C=D:=by
 unfold Cl at h h';rw[h] at h';cases h';rfl
def rP(K:ic)(O:Addr->Prop)(H:Hp)(ags:ka)(us:ip):Prop :=
 us.length=ags.length/\∀(j:Nat) (x:Ag) (u:V),ags[j]?=↑x->us[j]?=↑u->∃p vs,u=.ref p/\dP K H x.1 p vs/\bK K (gd O) c_ H x.2 vs
def fE(K:ic)(m:ka->i0->jj)(x:ka->i0->h7):Sp:=λvs H Q E =>
 ∃(O:Addr->Prop) (ags:ka) (us:ip) (ds:i0) (ws:ip),vs=us++ws/\rP K O H ags us/\aI K H O ds ws /\
  ((∃d,m ags ds=↑d/\∀v H',bG H H'->bB K H' (λa=>O a\/H a=none) d v->Q v H')\/∃c,x ags ds=↑c/\∀C H',Cl K c C->bG H H'->E (.ref C) none H')
def my(n:Nat)(ags:ka)(ds:i0):aQ:=ags.map (λx=>↑(Sl.ro x.1 x.2))++kr (n-ags.length) ds
def cB(n p ar:Nat)(g:FS):ka->i0->jj:=λags ds=>if ags.length=p/\ds.length=ar then(match g (my n ags ds) with |some (.rt d,_)=>↑d |some (.nx,_)=>some .non |_=>none) else none
def xQ(n p ar:Nat)(g:FS):ka->i0->h7:=λags ds=>if ags.length=p/\ds.length=ar then(match g (my n ags ds) with |some (.xc c,_)=>↑c |_=>none) else none
variable{O O':Addr->Prop}
def se(h:∀a,O a->O' a):(∀(d:D) (v:V),bB K H O d v->bB K H O' d v)/\∀(d:i0) (v:ip),aI K H O d v->aI K H O' d v :=
 ⟨λd v r=>r.mono (λ_ _ h=>h) λa us o q=>⟨h a o,q⟩,λd v r=>r.mono (λ_ _ h=>h) λa us o q=>⟨h a o,q⟩⟩
variable{ws:ip}{ds:i0}{N:gs}
theorem Dm(I:rP K O H ags us)(r:aI K H O ds ws)(g:us.length<=N.length) :
  Ok K (gd λa=>O a\/H a=none) H c_ (my N.length ags ds) (start N (us++ws)) H:=by
 have V:=yp (N:=N.drop us.length) r;have U:=V.len;have es:start N (us++ws)=us.map some++start (N.drop us.length) ws:=by
  unfold start;rw[bh,cx,ak,e8,Nat.sub_sub]
 have b:my N.length ags ds=ags.map (λx=>↑(Sl.ro x.1 x.2))++kr (N.drop us.length).length ds:=by unfold my;rw[e8,I.1]
 rw[es,b];refine⟨bG.refl _,V.good,V.wl,λi s e=>?_,λi j h s2 v1 v2 a D _ k _ o _=>?_,?_⟩
 ·by_cases hi:i<ags.length
  ·rw[bg (by simpa using hi),bj] at e
   cases D:ags[i]? with
   |none=>rw[D] at e;cases e
   |some x =>
     rw[D] at e;cases e;have Y:us[i]?=↑(us[i]'(by rw[I.1];exact hi)):=by simp[I.1,hi]
     obtain⟨p,vs,h1,h2,c⟩:=I.2 i x _ D Y;refine⟨_,by rw[bg (by rw[ai,I.1];exact hi),bj,Y];rfl,p,vs,h1,λz=>z,h2,c.step (λa vs n z=>⟨n,z⟩) (λd v q=>(se λa z=>⟨.inl z.1,λz=>z⟩).1 d v q) λd v q=>(se λa z=>⟨.inl z.1,λz=>z⟩).2 d v q⟩
  ·rw[cw (by simpa using hi),ai] at e
   obtain⟨v,Z,f⟩:=V.slot _ s e;rw[<-I.1] at Z;exact⟨v,by rw[cw (by rw[ai,I.1];lia),ai];exact Z,f⟩
 ·by_cases hi:i<ags.length
  ·rw[bg (by simpa using hi),bj] at D
   cases q:ags[i]? with
   |none=>rw[q] at D;cases D
   |some x=>rw[q] at D;cases D;exact o.elim
  ·rw[cw (by simpa using hi)] at D
   obtain⟨d,_,rfl⟩:=ry D;exact o.elim
 ·rw[ak,ak,ai,ai,U,I.1]
variable{x qual:Str}{st:Stmt}{n ar:Nat}{P:Program}{w:World}{mg:Str->gx}{base:Heap}
theorem Do{f:Addr}{p:Nat}(F:gN K x qual st f fd)(S:vo N ps (iy st))(m:n=N.length)(q:p+ar=ps.length)(Y:∀(cdv:Value) (A:Around) (outer:g9) (s:Shared) (H:Hp) (E:XK) (G:Gd) (H0:Hp),bE k (A.deeper (envOfC qual (iy st) s.heap.objs.size f cdv)) ->
   fQ (cI (dM P w) P w K mg base N qual (iy st) f cdv A outer s H E) G H0 (o9 st) g):cJ P w K mg base (dM P w) (k+1) f fd ps (fE K (cB n p ar g) (xQ n p ar g)):=by
 subst m;have t:ps.length<=N.length:=by have:=congrArg List.length S.pre;rw[fo] at this;lia
 have Z:∀ {O:Addr->Prop} {H:Hp} {ags:ka} {us:ip} {ds:i0} {ws:ip},rP K O H ags us->aI K H O ds ws->(ags.length=p/\ds.length=ar)->(us++ws).length=ps.length:=λU r h=>by rw[ak,U.1,h.1,<-r.length,h.2,q]
 refine F.okX S (λvs H Q E h=>?_) (λcdv A outer s H vs Q E u h=>?_)
 ·obtain⟨O,ags,us,ds,ws,rfl,U,r,h⟩:=h
  refine Z U r ?_;rcases h with⟨d,e,_⟩ | ⟨c,e,_⟩
  ·unfold cB at e;split at e
   ·assumption
   ·cases e
  ·unfold xQ at e;split at e
   ·assumption
   ·cases e
 ·obtain⟨O,ags,us,ds,ws,rfl,U,r,h⟩:=h
  refine⟨_,(Y cdv A outer s H E (gd λa=>O a\/H a=none) H u).out,?_⟩;rcases h with⟨d,e,k⟩ | ⟨c,e,k⟩
  ·unfold cB at e
   split at e;case isFalse=>cases e
   rename_i l;have j:=Dm (N:=N) U r (by rw[U.1,l.1];lia);split at e
   ·rename_i d' env' b
    cases e;exact⟨c_,_,_,env',j,b,λW' i v H' st I y=>k v H' I.stay (y.mono (λ_ _ h=>h) λa us o h=>⟨o.1,h⟩)⟩
   ·rename_i env' b
    cases e;exact⟨c_,_,_,env',j,b,λW' i H' st I=>k .non H' I.stay .non⟩
   ·cases e
  ·unfold xQ at e
   split at e;case isFalse=>cases e
   rename_i l;have j:=Dm (N:=N) U r (by rw[U.1,l.1];lia);split at e
   ·rename_i C env' b
    cases e;exact⟨c_,_,_,env',j,b,λW' i H' z B st I pins e s' xs=>wF xs (k z H' B I.stay)⟩
   ·cases e
def iR(K:ic)(m:ka->i0->kb)(x:ka->i0->Option (Str×ka)):Sp:=λvs H Q E =>
 ∃(G:Gd) (W:Addr->Prop) (Y:Hp) (ags:ka) (us:ip) (ds:i0) (ws:ip),vs=us++ws/\us.length=ags.length/\Ok K G Y W (sw ags) (us.map some) H/\aI K H (Ow G W) ds ws /\
  ((∃d I, m ags ds = ↑(d, I) /\ ∀W' env' U v H', Step W H W' H' -> Ok K G Y W' env' U H' -> (∀(j : Nat) (x : Ag), I[j]? = ↑x -> env'[j]? = ↑↑(kI x j)) -> bB K H' (Ow G W') d v -> Q v H') \/
   ∃c I,x ags ds=↑(c,I)/\∀C W' env' U H',Cl K c C->Step W H W' H'->Ok K G Y W' env' U H'->(∀(j:Nat) (x:Ag),I[j]?=↑x->env'[j]?=↑↑(kI x j))->E (.ref C) none H')
def we(n:Nat)(ags:ka)(ds:i0):aQ:=sw ags++kr (n-ags.length) ds
def fY(e:aQ):Nat->g7->Option ka
 |_,[]=>↑[] |j,_::r=>match e[j]? with |some ↑(.ag k ↑j' ps)=>if j'=j then(fY e (j+1) r).map λt=>(k,ps)::t else none |_=>none
def fR(n p ar:Nat)(g:FS):ka->i0->kb:=λags ds=>if ags.length=p/\ds.length=ar then(match g (we n ags ds) with |some (.rt d,e)=>(fY e 0 (List.range p)).map λt=>(d,t) |some (.nx,e)=>(fY e 0 (List.range p)).map λt=>(.non,t) |_=>none) else none
def xL(n p ar:Nat)(g:FS):ka->i0->Option (Str×ka):=λags ds=>if ags.length=p/\ds.length=ar then(match g (we n ags ds) with |some (.xc c,e)=>(fY e 0 (List.range p)).map λt=>(c,t) |_=>none) else none
theorem rQ{e:aQ}:∀ {l:g7} {i:Nat} {ags:ka},fY e i l=↑ags->ags.length=l.length/\∀(j:Nat) (x:Ag),ags[j]?=↑x->e[i+j]?=↑↑(kI x (i+j))
 | [],_,_,h=>by cases h;exact⟨rfl,λj x z=>by simp at z⟩
 |_::r,i,ags,h=>by
   unfold fY at h;split at h
   ·rename_i k D ps q
    split at h
    ·rename_i I
     subst I;cases e2:fY e (D+1) r with
     |none=>rw[e2] at h;cases h
     |some t =>
       rw[e2] at h;cases h;obtain⟨h1,h2⟩:=rQ e2;refine⟨by rw[bf,bf,h1],λj x z=>?_⟩;cases j with
       |zero=>simp at z;subst z;exact q |succ j =>
         have:=h2 j x (by simpa using z);rwa [show D+1+j=D+(j+1) by lia] at this
    ·cases h
   ·cases h
theorem Kz{I:Hp}(ok:Ok K G I W (sw ags) (us.map some) H)(U:us.length=ags.length)(r:aI K H (Ow G W) ds ws) :
  Ok K G I W (we N.length ags ds) (start N (us++ws)) H:=by
 have V:(sw ags).length=us.length:=by rw[Di,U]
 have es:start N (us++ws)=us.map some++start (N.drop us.length) ws:=by
  unfold start;rw[bh,cx,ak,e8,Nat.sub_sub]
 have g:we N.length ags ds=sw ags++kr (N.drop us.length).length ds:=by unfold we;rw[e8,U]
 have h:=yp (N:=N.drop us.length) (O:=Ow G W) r;rw[es,g];have D:∀ {i:Nat} {s:Sl},(sw ags++kr (N.drop us.length).length ds)[i]?=↑↑s->(i<us.length/\(sw ags)[i]?=↑↑s)\/(us.length<=i/\∃d,ds[i-us.length]?=↑d/\s=.sh d):=λ{i s} e=>by
  by_cases hi:i<us.length
  ·rw[bg ∅] at e;exact .inl ⟨hi,e⟩
  ·rw[cw ∅,V] at e
   obtain⟨d,q,z⟩:=ry e;exact .inr ⟨by lia,d,q,z⟩
 refine⟨ok.stay,ok.good,ok.wl,λi s e=>?_,λi j k s2 v1 v2 a l m Y Z b c=>?_,?_⟩
 ·rcases D e with⟨hi,e⟩ | ⟨hi,d,q,rfl⟩
  ·obtain⟨v,h1,h2⟩:=ok.slot i s e
   exact⟨v,by rw[bg (by simpa using hi)];exact h1,h2⟩
  ·obtain⟨v,h1,h2⟩:=r.get q
   refine⟨v,?_,h2⟩;rw[cw (by simpa using hi),ai];unfold start;rw[bg (by simpa using(am.mp h1).1),bj,h1];rfl
 ·rcases D l with⟨hi,n⟩ | ⟨hi,d,q,rfl⟩
  ·rcases D m with⟨f,f2⟩ | ⟨f,d,q,rfl⟩
   ·rw[bg (by simpa using hi)] at Y
    rw[bg (by simpa using f)] at Z;exact ok.uniq i j k s2 v1 v2 a n f2 Y Z b c
   ·exact c.elim
  ·exact b.elim
 ·rw[ak,ak,V,ai,h.len]
theorem Dp{f:Addr}{p:Nat}(F:gN K x qual st f fd)(S:vo N ps (iy st))(b:n=N.length)(i:p+ar=ps.length)(U:∀(cdv:Value) (A:Around) (outer:g9) (s:Shared) (H:Hp) (E:XK) (G:Gd) (H0:Hp),bE k (A.deeper (envOfC qual (iy st) s.heap.objs.size f cdv)) ->
   fQ (cI (dM P w) P w K mg base N qual (iy st) f cdv A outer s H E) G H0 (o9 st) g):cJ P w K mg base (dM P w) (k+1) f fd ps (iR K (fR n p ar g) (xL n p ar g)):=by
 subst b;refine F.okX S (λvs H Q E h=>?_) (λcdv A outer s H vs Q E l h=>?_)
 ·obtain⟨G,W,a,ags,us,ds,ws,rfl,Y,ok,r,h⟩:=h
  have:ags.length=p/\ds.length=ar:=by
   rcases h with⟨d,t,e,_⟩ | ⟨c,t,e,_⟩
   ·unfold fR at e;split at e
    ·assumption
    ·cases e
   ·unfold xL at e;split at e
    ·assumption
    ·cases e
  rw[ak,Y,this.1,<-r.length,this.2,i]
 ·obtain⟨G,W,a,ags,us,ds,ws,rfl,Y,ok,r,h⟩:=h
  refine⟨_,(U cdv A outer s H E G a l).out,?_⟩;have Z:=Kz (N:=N) ok Y r;rcases h with⟨d,t,e,k⟩ | ⟨c,t,e,k⟩
  ·unfold fR at e
   split at e;case isFalse=>cases e
   split at e
   ·rename_i d' env' V
    cases e2:fY env' 0 (List.range p) with
    |none=>rw[e2] at e;cases e
    |some t' =>
      rw[e2] at e;cases e;exact⟨W,_,_,env',Z,V,λW' D v H' st I m=>k W' env' D v H' st I (λj x z=>by have:=(rQ e2).2 j x z;rwa [lw] at this) m⟩
   ·rename_i env' V
    cases e2:fY env' 0 (List.range p) with
    |none=>rw[e2] at e;cases e
    |some t' =>
      rw[e2] at e;cases e;exact⟨W,_,_,env',Z,V,λW' D H' st I=>k W' env' D .non H' st I (λj x z=>by have:=(rQ e2).2 j x z;rwa [lw] at this) .non⟩
   ·cases e
  ·unfold xL at e
   split at e;case isFalse=>cases e
   split at e
   ·rename_i u env' V
    cases e2:fY env' 0 (List.range p) with
    |none=>rw[e2] at e;cases e
    |some t' =>
      rw[e2] at e;cases e;exact⟨W,_,_,env',Z,V,λW' D H' o q st I pins e s' xs=>wF xs (k o W' env' D H' q st I λj x z=>by have:=(rQ e2).2 j x z;rwa [lw] at this)⟩
   ·cases e
def e_(env:aQ):g7->Option ka
 | []=>↑[] |i::r=>match env[i]? with
   |some ↑(.ag k _ ps)=>(e_ env r).map λt=>(k,ps)::t |some ↑(.ro k ps)=>(e_ env r).map λt=>(k,ps)::t |_=>none
def fF(env:aQ)(is:g7):Prop:=∀i∈is,∃s,env[i]?=↑↑s
instance (env:aQ) (is:g7):Decidable (fF env is):=Classical.propDecidable _
variable{ps:js}{as:gy}
def bC.ro(h:bC K G W H ps as us):bK K (gd (Ow G W)) c_ H ps us:=by
 induction h with
 |nil=>exact .nil |d q _ ih=>exact .d ((se λa z=>⟨z,λz=>z⟩).1 _ _ q) ih |o hW hl q _ ih=>exact .o (λz=>z) hl ((se λa z=>⟨z,λz=>z⟩).2 _ _ q) ih
def bK.ro(h:bK K G W H ps us):bK K (gd (Ow G W)) c_ H ps us :=
 h.step (λa vs _ z=>⟨λz=>z,z⟩) (λd v q=>(se λa z=>⟨z,λz=>z⟩).1 d v q) λd v q=>(se λa z=>⟨z,λz=>z⟩).2 d v q
def Ok.roAll(ok:Ok K G H0 W env σ H):∀ {is:g7} {ags:ka} {us:ip},e_ env is=↑ags->us.length=is.length->(∀(j i:Nat),is[j]?=↑i->∃u,us[j]?=↑u/\σ[i]?=↑↑u)->rP K (Ow G W) H ags us
 | [],_,us,h,hl,_=>by cases h;exact⟨hl,λj x u e=>by simp at e⟩
 |i::r,ags,us,h,hl,hu=>by
   cases us with
   |nil=>simp at hl |cons u us =>
     obtain⟨o,b,c⟩:=hu 0 i rfl;simp at b;subst b;have Y:∃k ps t,ags=(k,ps)::t/\e_ env r=↑t/\∃p vs,u=.ref p/\dP K H k p vs/\bK K (gd (Ow G W)) c_ H ps vs:=by
      unfold e_ at h;split at h
      ·rename_i k l ps q
       cases h2:e_ env r with
       |none=>rw[h2] at h;cases h
       |some t =>
         rw[h2] at h;cases h;obtain⟨v,D,p,as,vs,rfl,_,_,_,I,U⟩:=ok.slot i _ q;rw[c] at D;cases D;exact⟨k,ps,t,rfl,rfl,p,vs,rfl,I,U.ro⟩
      ·rename_i k ps q
       cases h2:e_ env r with
       |none=>rw[h2] at h;cases h
       |some t =>
         rw[h2] at h;cases h;obtain⟨v,D,p,vs,rfl,_,I,U⟩:=ok.slot i _ q;rw[c] at D;cases D;exact⟨k,ps,t,rfl,rfl,p,vs,rfl,I,U.ro⟩
      ·cases h
     obtain⟨k,ps,t,rfl,h2,p,vs,rfl,I,U⟩:=Y;obtain⟨d,f⟩:=ok.roAll (us:=us) h2 (by simpa using hl) λj g e=>by
      obtain⟨u,m,n⟩:=hu (j+1) g (by simpa using e);exact⟨u,by simpa using m,n⟩
     refine⟨by rw[bf,bf,d],λj x v Z a=>?_⟩;cases j with
     |zero=>simp at Z a;subst Z;subst a;exact⟨p,vs,rfl,I,U⟩ |succ j=>exact f j x v (by simpa using Z) (by simpa using a)
variable{v:V}
def Ok.newRep(ok:Ok K G H0 W env σ H){d:D}(r:bB K H' (λa=>Ow G W a\/H a=none) d v):bB K H' (Ow G W) d v :=
 r.mono (λ_ _ h=>h) λa us o h=>⟨o.elim id λz=>⟨ok.good a (ok.stay.free z),λw=>by obtain⟨_,m,q⟩:=ok.wl a w;rw[z] at q;cases q⟩,h⟩
def la(X:Cx)(G:Gd)(H0:Hp)(is:g7)(F:FA):TA:=λσ H Q=>∃W env ds env',Ok X.K G H0 W env σ H/\fF env is/\F env=↑(ds,env') /\
 ∀W' us ws H',Step W H W' H'->Ok X.K G H0 W' env' σ H'->us.length=is.length->(∀(j i:Nat),is[j]?=↑i->∃u,us[j]?=↑u/\σ[i]?=↑↑u)->aI X.K H' (Ow G W') ds ws->Q (us++ws) H'
structure xE (X:Cx) (G:Gd) (H0:Hp) (is:g7) (es:h6) (F:FA):Prop where
 out:PA X es (la X G H0 is F)
variable{F:FA}
def j8(h:eM X G H0 es F):xE X G H0 [] es F:=⟨h.out.imp λσ H Q ⟨W,env,ds,env',ok,_,q,k⟩=>⟨W,env,ds,env',ok,q,λW' vs H' st D r=>k W' [] vs H' st D rfl (λj i e=>by simp at e) r⟩⟩
def lh(m:ka->i0->jj)(is:g7)(F:FA):FE:=λe=>if fF e is then(F e).bind λr=>(e_ r.2 is).bind λags=>(m ags r.1).map λd=>(d,r.2) else none
def me(x:ka->i0->h7)(is:g7)(F:FA):XF:=λe=>if fF e is then(F e).bind λr=>(e_ r.2 is).bind λags=>(x ags r.1).map λc=>(c,r.2) else none
variable{m:ka->i0->jj}{xx:ka->i0->h7}
def Dq:∀σ H Q,tD X.K G H0 (lh m is F) σ H Q->la X G H0 is F σ H λvs H1=>fE X.K m xx vs H1 Q (iI X σ):=λσ H Q U=>by
 obtain⟨W,env,d,env',ok,q,k⟩:=U;unfold lh at q;split at q;case isFalse=>cases q
 rename_i I;cases e1:F env with
 |none=>rw[e1] at q;cases q
 |some r =>
   rw[e1,ae] at q;cases e2:e_ r.2 is with
   |none=>rw[e2] at q;cases q
   |some ags =>
     rw[e2,ae] at q;cases e3:m ags r.1 with
     |none=>rw[e3] at q;cases q
     |some d' =>
       rw[e3] at q;cases q;exact⟨W,env,r.1,r.2,ok,I,e1,λW1 us ws H1 V D Y Z a=>⟨Ow G W1,ags,us,r.1,ws,rfl,D.roAll e2 Y Z,a,.inl ⟨_,e3,λv H' sm b=>k W1 v H' (V.trans (Step.same sm)) (D.same sm) (D.newRep b)⟩⟩⟩
def K0:∀σ H (Q:VK),jD X G H0 (me xx is F) σ H->la X G H0 is F σ H λvs H1=>fE X.K m xx vs H1 Q (iI X σ):=λσ H Q V=>by
 obtain⟨W,env,c,env',ok,q,k⟩:=V;unfold me at q;split at q;case isFalse=>cases q
 rename_i U;cases e1:F env with
 |none=>rw[e1] at q;cases q
 |some r =>
   rw[e1,ae] at q;cases e2:e_ r.2 is with
   |none=>rw[e2] at q;cases q
   |some ags =>
     rw[e2,ae] at q;cases e3:xx ags r.1 with
     |none=>rw[e3] at q;cases q
     |some c' =>
       rw[e3] at q;cases q;refine⟨W,env,r.1,r.2,ok,U,e1,λW1 us ws H1 Y D Z a b=>⟨Ow G W1,ags,us,r.1,ws,rfl,D.roAll e2 Z a,b,.inr ⟨_,e3,λC H' d sm pins H2 s2 f ea s' e I fl=>?_⟩⟩⟩;cases e;exact k W1 H' C d (Y.trans (Step.same sm)) (D.same sm) pins ea s' (.inl ⟨s2,H2,I,fl⟩)
variable{jr:Nat}
def oh(c:b_ X.prog X.w X.K X.mg X.base (dM X.prog X.w) x k (fE X.K m xx))(V:bE jr X.A)(Y:xE X G H0 is (e::es) F)(D:k<=jr:=by decide)(Z:Gl X x:=by walk_at "g")(a:‹starEach (e::es) X.env=(false,eval e X.env)::starEach es X.env›)(I:‹(backTo pos (starEach es X.env)).any (·.1)=false›) :
  aT X G H0 (.Call (.Name x p') (e::es) [] pos) (lh m is F):=let ⟨_,_,_,b,d,f,g,U⟩:=c;⟨(xC b (V.mono D) Z d f g Y.out U a I).imp Dq⟩
def oq(c:b_ X.prog X.w X.K X.mg X.base (dM X.prog X.w) x k (fE X.K m xx))(V:bE jr X.A)(Y:xE X G H0 is (e::es) F)(D:k<=jr:=by decide)(Z:Gl X x:=by walk_at "g")(a:‹starEach (e::es) X.env=(false,eval e X.env)::starEach es X.env›)(I:‹(backTo pos (starEach es X.env)).any (·.1)=false›) :
  JX X G H0 (.Call (.Name x p') (e::es) [] pos) (me xx is F):=let ⟨_,_,_,b,d,f,g,U⟩:=c;⟨(xC b (V.mono D) Z d f g Y.out U a I).imp K0⟩
instance (a b:List AK):Decidable (a=b):=Classical.propDecidable _
def vk(m:ka->i0->kb)(is:g7)(F:FA):FE:=λe=>if fF e is then(F e).bind λr=>(dZ r.2 is).bind λags=>(m ags r.1).bind λq=>if q.2.map (·.1)=ags.map (·.1) then ↑(q.1,dF r.2 is q.2) else none else none
def yg(x:ka->i0->Option (Str×ka))(is:g7)(F:FA):XF:=λe=>if fF e is then(F e).bind λr=>(dZ r.2 is).bind λags=>(x ags r.1).bind λq=>if q.2.map (·.1)=ags.map (·.1) then ↑(q.1,dF r.2 is q.2) else none else none
variable{b:Expr}
def Dr{a b:ka}(h:b.map (·.1)=a.map (·.1)):b.length=a.length/\∀(j:Nat) (x y:Ag),a[j]?=↑x->b[j]?=↑y->y.1=x.1:=by
 refine⟨by simpa using congrArg List.length h,λj x y D I=>?_⟩;have:=congrArg (λl:List AK=>l[j]?) h;simp[bj,D,I,Option.some.injEq] at this;exact this
variable{m:ka->i0->kb}{xx:ka->i0->Option (Str×ka)}
theorem K2(nd:is.Nodup):∀σ H Q,tD X.K G H0 (vk m is F) σ H Q->la X G H0 is F σ H λvs H1=>iR X.K m xx vs H1 Q (iI X σ):=λσ H Q f=>by
 obtain⟨W,env,d,env',ok,q,k⟩:=f;unfold vk at q;split at q;case isFalse=>cases q
 rename_i U;cases e1:F env with
 |none=>rw[e1] at q;cases q
 |some r =>
   rw[e1,ae] at q;cases e2:dZ r.2 is with
   |none=>rw[e2] at q;cases q
   |some ags =>
     rw[e2,ae] at q;cases e3:m ags r.1 with
     |none=>rw[e3] at q;cases q
     |some z =>
       rw[e3,ae] at q;split at q;case isFalse=>cases q
       rename_i V;cases q;obtain⟨g,i⟩:=Dr V;refine⟨W,env,r.1,r.2,ok,U,e1,λW1 us ws H1 l D N n p=>?_⟩;obtain⟨O,I,s,b,t,Y⟩:=D.lend nd e2;have w:I=us:=by
        apply eo;intro j;by_cases c:j<is.length
        ·obtain⟨u,x,y⟩:=n j is[j] (by simp[c])
         obtain⟨P,A,e⟩:=b j is[j] (by simp[c]);rw[y] at e;cases e;rw[x,A]
        ·rw[cq ∅,cq ∅]
       subst w;refine⟨_,_,_,ags,I,r.1,ws,rfl,by rw[s,m9 e2],Y,?_,.inl ⟨_,_,e3,λW' env' B v H' st Z C E=>?_⟩⟩
       ·exact p.mono (λ_ _ h=>h) λa us o h=>⟨⟨⟨o.1,λz=>absurd z o.2⟩,λz=>o.2 (D.lentW z)⟩,h⟩
       ·obtain⟨J,L,M⟩:=D.unlend nd e2 b t (by rw[g,m9 e2]) i st Z C
        exact k _ v H' (l.trans L) J (M E)
theorem K3(nd:is.Nodup):∀σ H (Q:VK),jD X G H0 (yg xx is F) σ H->la X G H0 is F σ H λvs H1=>iR X.K m xx vs H1 Q (iI X σ):=λσ H Q g=>by
 obtain⟨W,env,d,env',ok,q,k⟩:=g;unfold yg at q;split at q;case isFalse=>cases q
 rename_i V;cases e1:F env with
 |none=>rw[e1] at q;cases q
 |some r =>
   rw[e1,ae] at q;cases e2:dZ r.2 is with
   |none=>rw[e2] at q;cases q
   |some ags =>
     rw[e2,ae] at q;cases e3:xx ags r.1 with
     |none=>rw[e3] at q;cases q
     |some z =>
       rw[e3,ae] at q;split at q;case isFalse=>cases q
       rename_i Y;cases q;obtain⟨i,l⟩:=Dr Y;refine⟨W,env,r.1,r.2,ok,V,e1,λW1 us ws H1 n D O p s=>?_⟩;obtain⟨P,U,t,c,v,Z⟩:=D.lend nd e2;have w:U=us:=by
        apply eo;intro j;by_cases e:j<is.length
        ·obtain⟨u,x,y⟩:=p j is[j] (by simp[e])
         obtain⟨R,A,f⟩:=c j is[j] (by simp[e]);rw[y] at f;cases f;rw[x,A]
        ·rw[cq ∅,cq ∅]
       subst w;refine⟨_,_,_,ags,U,r.1,ws,rfl,by rw[t,m9 e2],Z,?_,.inr ⟨_,_,e3,λC W' env' B H' E st b J pins H2 s2 S ea s' L I fl=>?_⟩⟩
       ·exact s.mono (λ_ _ h=>h) λa us o h=>⟨⟨⟨o.1,λz=>absurd z o.2⟩,λz=>o.2 (D.lentW z)⟩,h⟩
       ·cases L
        obtain⟨M,N,T⟩:=D.unlend nd e2 c v (by rw[i,m9 e2]) l st b J;exact k _ H' C E (n.trans N) M pins ea s' (.inl ⟨s2,H2,I,fl⟩)
def jE(κ:AK)(e:aQ)(i:Nat):Prop:=(∃l ps,e[i]?=↑↑(.ag κ l ps))\/∃ps,e[i]?=↑↑(.ro κ ps)
instance (κ:AK) (e:aQ) (i:Nat):Decidable (jE κ e i):=Classical.propDecidable _
def fK(κ:AK)(i:Nat)(f:FE):FE:=λe=>if jE κ e i then f e else none
def xK(κ:AK)(i:Nat)(f:XF):XF:=λe=>if jE κ e i then f e else none
def jE.at{K:ic}{W:Addr->Prop}{H:Hp}{env:aQ}{σ:St}{c:Str}{fs:gs}{C:Addr}(ok:Ok K G H0 W env σ H)(h:jE (.ins false c fs) env i)(Y:Cl K c C):∃p dx us,σ[i]?=↑↑(.ref p)/\H p=↑(.ins C dx (fs.zip us))/\fs.length=us.length:=by
 rcases h with⟨l,ps,e⟩ | ⟨ps,e⟩
 ·obtain⟨v,I,p,as,us,rfl,_,_,_,⟨Z,dx,U,D,V⟩,_⟩:=ok.slot i _ e
  rw[Cl.inj U Y] at D;exact⟨p,dx,us,I,D,V⟩
 ·obtain⟨v,I,p,us,rfl,_,⟨Z,dx,U,D,V⟩,_⟩:=ok.slot i _ e
  rw[Cl.inj U Y] at D;exact⟨p,dx,us,I,D,V⟩
variable{m:Str}{fs:gs}
def rR(h:m∉fs):(fs.zip us).lookup m=none:=by
 induction fs generalizing us with
 |nil=>rfl |cons f r ih =>
   cases us with
   |nil=>rfl |cons u us =>
     rw[je,dh];have:(m==f)=false:=by simp;exact λz=>h (by simp[z])
     rw[this];exact ih λz=>h (by simp[z])
def Ds(V:Cl X.K c C)(Y:m∉fs)(h:∀σ H Q,tD X.K G H0 f σ H Q->la X G H0 [i] F σ H λvs H1=>sp vs H1 Q (iI X σ)):∀σ H Q,tD X.K G H0 (fK (.ins false c fs) i f) σ H Q->rN X C m sp (iK i) (kE X.K G H0 F) σ H Q:=λσ H Q Z=>by
 obtain⟨W,env,d,env',ok,q,k⟩:=Z;unfold fK at q;split at q;case isFalse=>cases q
 rename_i a;obtain⟨p,dx,us,U,b,_⟩:=a.at ok V;obtain⟨g,env0,ds,env1,D,_,l,n⟩:=h σ H Q ⟨W,env,d,env',ok,q,k⟩;refine⟨_,U,p,dx,_,rfl,b,rR Y,g,env0,ds,env1,D,l,λW' ws H' st I r=>?_⟩;exact n W' [.ref p] ws H' st I rfl (λj o e=>by cases j with |zero=>simp at e;subst e;exact⟨_,rfl,U⟩ |succ j=>simp at e) r
def K4(V:Cl X.K c C)(Y:m∉fs){f:XF}(h:∀σ H (Q:VK),jD X G H0 f σ H->la X G H0 [i] F σ H λvs H1=>sp vs H1 Q (iI X σ)):∀σ H (Q:VK),jD X G H0 (xK (.ins false c fs) i f) σ H->rN X C m sp (iK i) (kE X.K G H0 F) σ H Q:=λσ H Q Z=>by
 obtain⟨W,env,d,env',ok,q,k⟩:=Z;unfold xK at q;split at q;case isFalse=>cases q
 rename_i a;obtain⟨p,dx,us,U,b,_⟩:=a.at ok V;obtain⟨g,env0,ds,env1,D,_,l,n⟩:=h σ H Q ⟨W,env,d,env',ok,q,k⟩;refine⟨_,U,p,dx,_,rfl,b,rR Y,g,env0,ds,env1,D,l,λW' ws H' st I r=>?_⟩;exact n W' [.ref p] ws H' st I rfl (λj o e=>by cases j with |zero=>simp at e;subst e;exact⟨_,rfl,U⟩ |succ j=>simp at e) r
section
variable {X:Cx} {G:Gd} {H0:Hp} {a b e:Expr} {es:h6} {f:FE} {F:FA} {x m cn:Str} {fs:gs} {is:g7} {pos p' p1 p2 apos:Pos} {i:Nat} {k:Nat} {fa C:Addr} {fd:FuncData} {ps:gs} {pl:Sem Bool}
variable {mm:ka->i0->jj} {xx:ka->i0->h7}
def xF{Nn Cn:gs}{jr:Nat}{i:Nat}(c:fH X.prog X.w X.K X.mg X.base cn m k (fE X.K mm xx))(Y:bE jr X.A)(an:cA Nn Cn X)(D:k<=jr:=by decide)(I:‹Nn[i]?=↑x›)(Z:m∉fs:=by decide +kernel)(b:eval (.Call (.Attribute (.Name x p') m apos) [] [] pos) X.env=(do
   let ov <-eval (.Name x p') X.env
   standAt apos.atName
   let (f,first) <-holding [ov] (getMethod ov m pl)
   callWith pos f first (backTo pos (starEach [] X.env)) (backToKw pos (keywordEach [] X.env))):=by rfl) :
  aT X G H0 (.Call (.Attribute (.Name x p') m apos) [] [] pos) (fK (.ins false cn fs) i (lh mm [i] aC)):=let ⟨_,_,_,_,c,U,d,e,g⟩:=c;⟨(Kv ((an.a I).pe) c U d (Y.mono D) e b).imp λσ H Q h=>by
   obtain⟨j,h1,h2⟩:=Ds (F:=aC) g Z (Dq (xx:=xx)) σ H Q h;obtain⟨a,dx,V,l,n,o,W,env,ds,env',ok,q,kk⟩:=h2;cases q;exact⟨j,h1,a,dx,V,l,n,o,kk W [] H Step.refl ok .nil⟩⟩
variable {mm:ka->i0->kb} {xx:ka->i0->Option (Str×ka)}
def Dt{Nn Cn:gs}{jr:Nat}{i:Nat}(c:fH X.prog X.w X.K X.mg X.base cn m k (iR X.K mm xx))(Z:bE jr X.A)(b:eM X G H0 (e::es) F)(an:cA Nn Cn X)(D:k<=jr:=by decide)(I:‹Nn[i]?=↑x›)(d:m∉fs:=by decide +kernel)(U:‹starEach (e::es) X.env=(false,eval e X.env)::starEach es X.env›)(V:‹(backTo pos (starEach es X.env)).any (·.1)=false›)(g:eval (.Call (.Attribute (.Name x p') m apos) (e::es) [] pos) X.env=(do
   let ov <-eval (.Name x p') X.env
   standAt apos.atName
   let (f,first) <-holding [ov] (getMethod ov m pl)
   callWith pos f first (backTo pos (starEach (e::es) X.env)) (backToKw pos (keywordEach [] X.env))):=by rfl) :
  aT X G H0 (.Call (.Attribute (.Name x p') m apos) (e::es) [] pos) (fK (.ins false cn fs) i (vk mm [i] F)):=let ⟨_,_,_,_,c,Y,h,j,l⟩:=c;⟨(rO ((an.a I).pe) c Y h (Z.mono D) j b.out U V g).imp (Ds l d (K2 ⋯))⟩
def K5{Nn Cn:gs}{jr:Nat}{i:Nat}(c:fH X.prog X.w X.K X.mg X.base cn m k (iR X.K mm xx))(Z:bE jr X.A)(b:eM X G H0 (e::es) F)(an:cA Nn Cn X)(D:k<=jr:=by decide)(I:‹Nn[i]?=↑x›)(d:m∉fs:=by decide +kernel)(U:‹starEach (e::es) X.env=(false,eval e X.env)::starEach es X.env›)(V:‹(backTo pos (starEach es X.env)).any (·.1)=false›)(g:eval (.Call (.Attribute (.Name x p') m apos) (e::es) [] pos) X.env=(do
   let ov <-eval (.Name x p') X.env
   standAt apos.atName
   let (f,first) <-holding [ov] (getMethod ov m pl)
   callWith pos f first (backTo pos (starEach (e::es) X.env)) (backToKw pos (keywordEach [] X.env))):=by rfl) :
  JX X G H0 (.Call (.Attribute (.Name x p') m apos) (e::es) [] pos) (xK (.ins false cn fs) i (yg xx [i] F)):=let ⟨_,_,_,_,c,Y,h,j,l⟩:=c;⟨(rO ((an.a I).pe) c Y h (Z.mono D) j b.out U V g).imp (K4 l d (K3 ⋯))⟩
def wo{z:Int}(D:∃t,X.mg x=↑(.int z t))(I:Gl X x:=by walk_at "g")(hd:(x==("__debug__" : Str))=false:=by decide +kernel):aT X G H0 (.Name x pos) (fC ↥z):=by
 obtain⟨t,D⟩:=D;exact jP (AZ I D (v:=.int z) ⟨t,rfl⟩ hd) λ_ _=>.int _
abbrev FV:=aQ->Option aQ
def tV(X:Cx)(G:Gd)(H0:Hp)(v:FV):TE:=λσ H Q=>∃W env env',Ok X.K G H0 W env σ H/\v env=↑env'/\∀W' z H',Step W H W' H'->Ok X.K G H0 W' env' σ H'->Q (.str z) H'
structure JV (X:Cx) (G:Gd) (H0:Hp) (e:Expr) (v:FV):Prop where
 out:PE X e (tV X G H0 v)
def Du{z:Str}{j:Nat}:JV X G H0 (.Constant (.str z) j pos) some:=⟨AY.imp λσ H Q ⟨W,env,env',ok,q,k⟩=>by cases q;exact k W z H Step.refl ok⟩
structure xH (X:Cx) (G:Gd) (H0:Hp) (e:Expr) (v:FV):Prop where
 out:∀(pins:ii) (s:Shared) (σ:St) (H:Hp) (Q:Nat->Hp->Prop),Inv X pins σ H s->(∃W env env',Ok X.K G H0 W env σ H/\v env=↑env'/\∀n W' H',n<=1000->Step W H W' H'->Ok X.K G H0 W' env' σ H'->Q n H') ->
  wpAny (model X.prog X.w) X.A (eval e X.env) (λu s'=>∃z t H',u=.str z t/\Inv X pins σ H' s'/\Q z.length H') X.xe s
def xq{z:Str}{j:Nat}(D:z.length<=1000:=by decide):xH X G H0 (.Constant (.str z) j pos) some:=⟨λpins s σ H Q I U=>by
 obtain⟨W,env,env',ok,q,k⟩:=U;cases q;exact Calls.Constant_str ⟨z,_,H,rfl,I.tok _,k _ W H D Step.refl ok⟩⟩
def vInt(f:FE):FV:=λe=>(f e).bind λr=>match r.1 with | .int z=>if z.natAbs<1000000 then ↑r.2 else none |_=>none
theorem mD(h:aT X G H0 a f):xH X G H0 (.FormattedValue a (-1) none pos) (vInt f):=⟨λpins s σ H Q I U=>by
 obtain⟨W,env,env',ok,q,k⟩:=U;unfold vInt at q;cases e1:f env with
 |none=>rw[e1] at q;cases q
 |some r =>
   rw[e1,ae] at q;split at q;case h_2=>cases q
   rename_i z d;split at q;case isFalse=>cases q
   rename_i Y;cases q;refine FormattedValue_plain (bI (h.out pins s σ H (λv H1=>v=.int z/\∀n,n<=1000->Q n H1) I ⟨W,env,r.1,r.2,ok,e1,λW1 v H1 Z V b=>⟨by rw[d] at b;exact b.int_,λn e=>k n W1 H1 e Z V⟩⟩) λu Z U=>?_);obtain⟨v,H1,g,i,j,l⟩:=U;subst j;obtain⟨t,rfl⟩:=i;have D:z.natAbs.log2<1920:=by
    by_cases c:z.natAbs=0
    ·rw[c];decide
    ·exact(Nat.log2_lt c).mpr (bz Y (cy (by decide:(1000000:Nat)<=2 ^ 20) (qf (by decide) (by decide))))
   refine formatField_int_small D ⟨_,_,H1,rfl,(g.tok _).tok _,l _ ?_⟩;have:(toString z).length<=6+1:=int_text_length_le10 (by decide) Y;rw[PySem.ofString_length]
   lia⟩
structure rS (X:Cx) (G:Gd) (H0:Hp) (es:h6) (v:FV):Prop where
 out:∀(acc:Str) (pins:ii) (s:Shared) (σ:St) (H:Hp) (Q:VK),acc.length+1000*es.length<=100000->Inv X pins σ H s->tV X G H0 v σ H Q ->
  wpAny (model X.prog X.w) X.A (joinParts acc (evalEach es X.env)) (EP X pins σ Q) X.xe s
theorem mE  : rS X G H0 [] some:=⟨λD pins s σ H Q V I U=>by
 obtain⟨W,env,env',ok,q,k⟩:=U;cases q;exact joinParts_nil ⟨.str D,H,I.tok _,⟨_,rfl⟩,k W D H Step.refl ok⟩ (by rw[ie];lia)⟩
theorem sg{v w:FV}(h:xH X G H0 e v)(t:rS X G H0 es w)(f:‹evalEach (e::es) X.env=eval e X.env::evalEach es X.env›):rS X G H0 (e::es) (λz=>(v z).bind w):=⟨λa pins s σ H Q b I D=>by
 obtain⟨W,env,env',ok,q,k⟩:=D;cases e1:v env with
 |none=>simp only[e1] at q;cases q
 |some env1 =>
   have q:w env1=↑env':=by simpa only[e1,ae] using q
   rw[bf] at b;refine joinParts_cons (bI (h.out pins s σ H (λn H1=>n<=1000/\tV X G H0 w σ H1 Q) I ⟨W,env,env1,ok,e1,λn W1 H1 Z U V=>⟨Z,W1,env1,env',V,q,λW' z H' s2 Y=>k W' z H' (U.trans s2) Y⟩⟩) λu U D=>?_);obtain⟨z,tk,H1,c,d,Z,tv⟩:=D;subst c;exact⟨by rw[strLen_append,ie];lia,t.out _ pins U σ H1 Q (by rw[strLen_append];lia) d tv⟩⟩
theorem mG{e':Expr}{v:FV}(h:rS X G H0 (e::e'::es) v)(D:1000*(e::e'::es).length<=100000:=by decide):JV X G H0 (.JoinedStr (e::e'::es) pos) v :=
 ⟨λpins s σ H Q I t=>JoinedStr_many (h.out Str.empty pins s σ H Q (by show 0+_<=_;lia) I t)⟩
abbrev xI:gu:=[.type "ValueError",.type "Exception",.type "BaseException",.type "object"]
def XC(K:ic)(C:Addr):Prop:=PySem.W.excIn K C xI "ValueError.__new__" = true
def jF(K:ic)(mg:Str->gx)(c:Str):Prop:=∃C,Cl K c C/\XC K C/\mg c=↑(.ref C)/\(c==("__debug__" : Str))=false
def XC.obj{K:ic}{C:Addr}{h:Heap}(I:XC K C)(D:K.In h):∃bm N nm q bs hdct sn sub ab col dd k0 k1 k2 k3 k5 mN,h.get? C=↑(excClassObj nm q C N bs bm hdct sn sub ab col dd k0 k1 k2 k3 k5 "ValueError.__new__")/\h.Ns N mN/\mN "__init__" = none/\OwnTail h xI bm:=by
 unfold XC PySem.W.excIn at I;split at I;case h_2=>cases I
 rename_i dd cd sl V;split at I;case h_2=>cases I
 rename_i k bm k0 k1 k2 k3 n k5 Y Z;simp only[fq,l8,mw] at I;obtain⟨⟨⟨⟨⟨a,b⟩,c⟩,d⟩,U⟩,e⟩:=I;subst a;subst b;have f:=D _ _ V;obtain⟨nm,bs,g,ns,i,hd,sn,sub,ab,col,j⟩:=cd;obtain⟨l⟩:=sl;subst Y;subst c;subst Z;exact⟨bm,ns,nm,i,bs,hd,sn,sub,ab,col,dd,k0,k1,k2,k3,k5,_,f,.of_isNs (isNs_of_in D U),nsMap_none_of_in D U e,tail_of_in D d⟩
def qz(c:Str)(v:FV):FS:=λe=>(v e).map λe'=>(.xc c,e')
def yq{v:FV}{c:Str}{l cpos:Pos}(n:jF X.K X.mg c)(o:JV X G H0 a v)(p:‹X.calm=true›)(r:Gl X c:=by walk_at "g")(Y:‹starEach [a] X.env=(false,eval a X.env)::starEach [] X.env›)(Z:‹(backTo cpos (starEach [a] X.env)).any (·.1)=false›) :
  eZ X G H0 (.Raise ↑(.Call (.Name c l) [a] [] cpos) none pos) (qz c v):=let ⟨C,t,u,w,b⟩:=n;⟨λpins s σ H D I d=>by
 obtain⟨W,env,fl,env',ok,q,k⟩:=d;unfold qz at q;cases e1:v env with
 |none=>rw[e1] at q;cases q
 |some env1 =>
   rw[e1] at q;cases q;obtain⟨tl,N,nm,q,bs,hdct,sn,sub,ab,col,dd,k0,k1,k2,k3,k5,mN,x,y,A,i⟩:=u.obj I.ok.mod.kin;refine wpAny_Raise_call_subT (C:=C) (nm:=nm) (q:=q) (N:=N) (bs:=bs) (bm:=tl) (hdct:=hdct) (sn:=sn) (sub:=sub) (ab:=ab) (col:=col) (dd:=dd) (k0:=k0) (k1:=k1) (k2:=k2) (k3:=k3) (k5:=k5) yv (mN:=mN)
    (i.hasType yv.hasBase) (I.ok.hd p) Z A (zk I r w ⟨rfl,?_⟩ b)
   rw[Y];refine Calls.evalArgs_plain ?_;have j:=(oy o.out qt Y) cpos pins s σ H (λvs H1=>vs.length=1/\∃W1,Step W H W1 H1/\Ok X.K G H0 W1 env' σ H1) I ⟨W,env,env',ok,e1,λW1 z H1 f U=>⟨rfl,W1,f,U⟩⟩;rw[Y] at j;refine bI j λus f d=>?_;obtain⟨vs,H1,V,B,E,W1,g,U⟩:=d;have h:us.length<=sizeLine:=by rw[<-B.length,E];decide
   exact⟨rfl,h,V.bk _ _ x,y.keeps V.bk,i.keeps V.bk,λh' e m=>k W1 σ H1 C t g U pins e _ (.inr ⟨f,us,V,m,rfl⟩)⟩⟩
end
def dB(e:aQ)(i:Nat):Option Ag:=match e[i]? with |some ↑(.ag k _ ps)=>↑(k,ps) |some ↑(.ro k ps)=>↑(k,ps) |_=>none
def xg:js->Nat->Nat
 | .o _::r,j+1=>xg r j+1 | .d _::r,j+1=>xg r j |_,_=>0
inductive Acc where
 |at (κ:AK) |al (x:Nat)
def Acc.ok:Acc->aQ->Nat->Nat->Prop
 | .at κ,e,i,_=>jE κ e i
 | .al x,e,i,j=>∃k r ps,e[i]?=↑↑(.ag k ↑r ps)/\e[x]?=↑↑(.al r (xg ps j))
instance (A:Acc) (e:aQ) (i j:Nat):Decidable (A.ok e i j):=Classical.propDecidable _
def ub(A:Acc)(i j:Nat)(e:aQ):Option i0:=if A.ok e i j then(dB e i).bind λx=>match x.2[j]? with |some (.o ds)=>↑ds |_=>none else none
def d_(K:ic)(H:Hp)(env:aQ)(σ:St)(i j:Nat)(a:Addr):Prop:=∃k ps p us,dB env i=↑(k,ps)/\σ[i]?=↑↑(.ref p)/\dP K H k p us/\us[j]?=↑(.ref a)
def K6(X:Cx)(G:Gd)(H0:Hp)(A:Acc)(i j:Nat):TE:=λσ H Q=>∃W env ds,Ok X.K G H0 W env σ H/\ub A i j env=↑ds /\
 ∀a vs,d_ X.K H env σ i j a->H a=↑(.lst vs)->aI X.K H (Ow G W) ds vs->Q (.ref a) H
structure xJ (X:Cx) (G:Gd) (H0:Hp) (e:Expr) (A:Acc) (i j:Nat):Prop where
 out:PE X e (K6 X G H0 A i j)
protected def bC.ix(h:bC K G W H ps as us)(e:ps[j]?=↑(.o ds)):∃a,us[j]?=↑(.ref a)/\as[xg ps j]?=↑a:=by
 induction h generalizing j with
 |nil=>simp at e |d _ _ ih =>
   cases j with
   |zero=>simp at e |succ j=>obtain⟨a,h1,h2⟩:=ih (j:=j) (by simpa using e);exact⟨a,by simpa using h1,h2⟩
 | @o _ a _ _ _ _ _ _ _ _ ih =>
   cases j with
   |zero=>exact⟨a,rfl,rfl⟩ |succ j=>obtain⟨b,h1,h2⟩:=ih (j:=j) (by simpa using e);exact⟨b,by simpa using h1,by simpa[xg] using h2⟩
variable{k:AK}
def Ok.part(ok:Ok K G H0 W env σ H)(e:dB env i=↑(k,ps))(Y:ps[j]?=↑(.o ds)):∃p us a vs,σ[i]?=↑↑(.ref p)/\dP K H k p us/\us[j]?=↑(.ref a)/\H a=↑(.lst vs)/\aI K H (Ow G W) ds vs:=by
 unfold dB at e;split at e
 ·rename_i k' l ps' q
  cases e;obtain⟨v,D,p,as,us,rfl,_,_,_,I,U⟩:=ok.slot i _ q;obtain⟨a,vs,h1,_,_,h2,V⟩:=U.get Y;exact⟨p,us,a,vs,D,I,h1,h2,V⟩
 ·rename_i k' ps' q
  cases e;obtain⟨v,D,p,us,rfl,_,I,U⟩:=ok.slot i _ q;obtain⟨a,vs,h1,_,h2,V⟩:=U.get Y;exact⟨p,us,a,vs,D,I,h1,h2,V⟩
 ·cases e
variable{A:Acc}
def Dv(h:ub A i j env=↑ds):A.ok env i j/\∃k ps,dB env i=↑(k,ps)/\ps[j]?=↑(.o ds):=by
 unfold ub at h;split at h;case isFalse=>cases h
 rename_i D;cases e:dB env i with
 |none=>rw[e] at h;cases h
 |some x =>
   rw[e,ae] at h;split at h
   ·rename_i ds' q;cases h;exact⟨D,x.1,x.2,rfl,q⟩
   ·cases h
def d_.inj{b:Addr}(h:d_ K H env σ i j a)(h':d_ K H env σ i j b):a=b:=by
 obtain⟨k,ps,p,us,h1,h2,Y,Z⟩:=h;obtain⟨k',ps',p',c,I,U,V,D⟩:=h';rw[h1] at I;cases I;rw[h2] at U;cases U;rw[zh Y V.o] at D;rw[Z] at D;cases D;rfl
def xM{f:Str}{u:V}(nd:fs.Nodup)(h1:fs[j]?=↑f)(h2:us[j]?=↑u):(fs.zip us).lookup f=↑u:=by
 induction fs generalizing us j with
 |nil=>simp at h1 |cons g r ih =>
   cases us with
   |nil=>simp at h2 |cons w us =>
     rw[je,dh];cases j with
     |zero=>simp at h1 h2;subst h1;subst h2;simp |succ j =>
       have D:(f==g)=false:=by simp;exact λz=>(c7.mp nd).1 (z ▸ bn h1)
       rw[D];exact ih (c7.mp nd).2 h1 (by simpa using h2)
variable{Cn:gs}{cn:Str}
def rT(c:oI X.K cn m)(an:cA Nn Cn X)(I:‹Nn[i]?=↑x›)(Y:‹fs[j]?=↑m›)(nd:fs.Nodup:=by decide +kernel)(Z:‹attributeBase (.Name x p') m X.env (eval (.Name x p') X.env)=eval (.Name x p') X.env›):xJ X G H0 (.Attribute (.Name x p') m pos) (.at (.ins false cn fs)) i j:=let ⟨C,c,b,d⟩:=c;⟨(By ((an.a I).pe) Z).imp λσ H Q e=>by
  obtain⟨W,env,ds,ok,q,k⟩:=e;obtain⟨f,κ,ps,D,g⟩:=Dv q;obtain⟨p,us,a,vs,h1,h2,U,h,n⟩:=ok.part D g;have o:κ=.ins false cn fs:=by
   rcases f with⟨l,ps',z⟩ | ⟨ps',z⟩ <;> (unfold dB at D;rw[z] at D;cases D;rfl)
  subst o;obtain⟨s,dx,r,V,t⟩:=id h2;rw[Cl.inj r d] at V;exact⟨_,h1,p,C,dx,_,_,rfl,V,c,b,xM nd Y U,k a vs ⟨_,ps,p,us,D,h1,h2,U⟩ h n⟩⟩
structure JK (X:Cx) (e:Expr) (z:Int):Prop where
 out:PE X e (tC ↥z)
variable{z:Int}
def Dw{D:Nat}:JK X (.Constant ↥z D pos) z:=⟨uJ⟩
def Dx(h:JK X e z):JK X (.UnaryOp .USub e pos) (-z):=⟨(Bi Bl h.out).imp λσ H Q q=>⟨z,rfl,q⟩⟩
def mH(A:Acc)(i j:Nat)(z:Int):FE:=λe=>(ub A i j e).bind λds=>(bJ ds z).map λd=>(d,e)
def Dy(h:xJ X G H0 e A i j)(D:JK X b z)(I:lM b:=by intro _ _;rfl):aT X G H0 (.Subscript e b pos) (mH A i j z) :=
 ⟨(qN B9 h.out D.out I).imp λσ H Q U=>by
  obtain⟨W,env,d,env',ok,q,k⟩:=U;unfold mH at q;cases e1:ub A i j env with
  |none=>rw[e1] at q;cases q
  |some ds =>
    rw[e1,ae] at q;cases e2:bJ ds z with
    |none=>rw[e2] at q;cases q
    |some d' =>
      rw[e2] at q;cases q;refine⟨W,env,ds,ok,e1,λa vs _ V r=>?_⟩;obtain⟨v,Y,Z⟩:=lR r e2;exact⟨a,vs,z,v,rfl,rfl,.inl (.inl V),Y,k W v H Step.refl ok Z⟩⟩
def setP(e:aQ)(i j:Nat)(ds:i0):aQ:=match e[i]? with |some ↑(.ag k l ps)=>e.set i ↑(.ag k l (ps.set j (.o ds))) |_=>e
def Ok.setP{K:ic}{W:Addr->Prop}{H:Hp}{env:aQ}{σ:St}{k:AK}{l:Option Nat}{ps:js}{ds ds':i0}{a:Addr}{vs':ip}(ok:Ok K G H0 W env σ H)(e:env[i]?=↑↑(.ag k l ps))(I:ps[j]?=↑(.o ds))(U:d_ K H env σ i j a)(r:aI K H (Ow G W) ds' vs') :
  Ok K G H0 W (L2.setP env i j ds') σ (a_ H a (.lst vs'))/\Step W H W (a_ H a (.lst vs')):=by
 obtain⟨k',ps',p,us,h1,h2,Y,Z⟩:=U;have:dB env i=↑(k,ps):=by unfold dB;rw[e]
 rw[this] at h1;cases h1;unfold L2.setP;rw[e];exact ok.turnP e h2 Y I Z r
def jY(k:AK)(l:Option Nat):Prop:=l.isSome=true/\∀c fs,k≠.ins true c fs
instance (k:AK) (l:Option Nat):Decidable (jY k l):=Classical.propDecidable _
variable{l:Option Nat}
def K7{W1:Addr->Prop}{H1:Hp}{env1:aQ}{U:js}{f:i0}(x:jY k l)(ok:Ok K G H0 W env σ H)(g:Ok K G H0 W1 env1 σ H1)(e:env[i]?=↑↑(.ag k l ps))(y:env1[i]?=↑↑(.ag k l U))(z:ps[j]?=↑(.o ds))(h:U[j]?=↑(.o f))(A:xg U j=xg ps j)(B:d_ K H env σ i j a):d_ K H1 env1 σ i j a:=by
 obtain⟨r,rfl⟩:=nh.mp x.1;obtain⟨v,m,p,as,us,rfl,_,_,h1,C,E⟩:=ok.slot i _ e;obtain⟨M,Z,p',V,n,rfl,_,_,q,s,t⟩:=g.slot i _ y;rw[m] at Z;cases Z;have Y:=h1 r rfl;have I:=q r rfl;obtain⟨b,F,J⟩:=E.ix z;obtain⟨N,u,d⟩:=t.ix h;have L:d_ K H env σ i j b:=⟨k,ps,p,us,by unfold dB;rw[e],m,C,F⟩;have ab:=B.inj L;subst ab;have w:V=as:=by
  cases k with
  |ls=>have Y:G.r r=p::as:=Y;have I:G.r r=p::V:=I;rw[Y] at I;cases I;rfl
  |ins bb c fs =>
    cases bb with
    |true=>exact absurd rfl (x.2 c fs) |false=>have Y:G.r r=p::as:=Y;have I:G.r r=p::V:=I;rw[Y] at I;cases I;rfl
 subst w;rw[A,J] at d;cases d;exact⟨k,U,p,n,by unfold dB;rw[y],m,s,u⟩
instance (k k':AK):Decidable (k=k'):=Classical.propDecidable _
def lc(i j:Nat)(k0:AK)(I:Option Nat)(n:Nat)(d:D)(e:aQ):Option (D×aQ):=match e[i]? with
 |some ↑(.ag k l ps)=>(match ps[j]? with |some (.o ds)=>if k=k0/\l=I/\xg ps j=n/\cE (ds.length+1) then ↑(.non,setP e i j (ds++[d])) else none |_=>none)
 |_=>none
def mI(A:Acc)(i j:Nat)(f:FE):FE:=λe=>match e[i]? with
 |some ↑(.ag k l ps)=>if jY k l then(ub A i j e).bind λ_=>(f e).bind λr=>lc i j k l (xg ps j) r.1 r.2 else none
 |_=>none
variable{a:Expr}{p1:Pos}
theorem Dz(h:xJ X G H0 e A i j)(t:aT X G H0 a f)(I:‹attributeBase e "append" X.env (eval e X.env)=eval e X.env›)(Z:((backTo pos (starEach [a] X.env)).all (λx=>!x.1) && (backToKw pos (keywordEach [] X.env)).all (λx=>x.1.isSome)
   && decide ([a].length+([]:List Keyword).length+(if ([]:List Keyword).isEmpty then 0 else 1)<30))=true:=by rfl)(U:‹(p1.endLine==pos.line)=true›)(m:‹starEach [a] X.env=(false,eval a X.env)::starEach [] X.env›) :
  aT X G H0 (.Call (.Attribute e "append" p1) [a] [] pos) (mI A i j f):=⟨(y8 f7 nc m8 vG h.out (oy t.out qt m) I Z U m rfl).imp λσ H Q u=>by
 obtain⟨W,env,d,env',ok,q,k⟩:=u;unfold mI at q;split at q;case h_2=>cases q
 rename_i kk R pp n;split at q;case isFalse=>cases q
 rename_i b;cases e1:ub A i j env with
 |none=>rw[e1] at q;cases q
 |some ds =>
   rw[e1,ae] at q;cases e2:f env with
   |none=>rw[e2] at q;cases q
   |some r =>
     rw[e2,ae] at q;unfold lc at q;split at q;case h_2=>cases q
     rename_i k1 S v D;split at q;case h_2=>cases q
     rename_i w V;split at q;case isFalse=>cases q
     rename_i y;obtain⟨rfl,rfl,z,g⟩:=y;cases q;obtain⟨_,κ,ps,o,B⟩:=Dv e1;have:dB env i=↑(k1,pp):=by unfold dB;rw[n]
     rw[this] at o;cases o;refine⟨W,env,ds,ok,e1,λad vs C E T=>⟨.inl ⟨rfl,_,.inl (.inl E)⟩,W,env,r.1,r.2,ok,e2,λW1 v1 H1 F Y J=>?_⟩⟩;have c:=K7 b ok Y n D B V z C;obtain⟨p,us,a1,l,K,L,M,N,s⟩:=Y.part (i:=i) (by unfold dB;rw[D]) V;have:=c.inj ⟨_,_,p,us,by unfold dB;rw[D],K,L,M⟩;subst this;obtain⟨O,P⟩:=Y.setP D V c (s.append (.cons J .nil));exact⟨ad,l,v1,rfl,rfl,N,by rw[<-s.length];exact jV (mr g),k W1 _ _ (F.trans P) O .non⟩⟩
abbrev FG:=aQ->Option (Ag×aQ)
def D0(env:aQ)(σ:St)(H:Hp)(s:Sl)(v:V):Prop:=∀(j:Nat) (s':Sl) (D:V) (a:Addr),env[j]?=↑↑s'->σ[j]?=↑↑D->bS H s v a->¬bS H s' D a
def K8(X:Cx)(G:Gd)(H0:Hp)(f:FG):TE:=λσ H Q=>DP X.K G H0 f (λW env x env' =>
 ∀W' p H',Step W H W' H'->Ok X.K G H0 W' env' σ H'->dQ X.K G W' H' (.ag x.1 none x.2) (.ref p)->D0 env' σ H' (.ag x.1 none x.2) (.ref p)->Q (.ref p) H') σ H
structure oN (X:Cx) (G:Gd) (H0:Hp) (e:Expr) (f:FG):Prop where
 out:PE X e (K8 X G H0 f)
def rV(i:Nat)(f:FG):FS:=λe=>(f e).map λr=>(.nx,r.2.set i ↑(.ag r.1.1 none r.1.2))
def rW(i:Nat):FS:=λe=>match e[i]? with |some ↑(.ag k _ ps)=>↑(.ra k ps,e) |_=>none
variable{G':Gd}
def Ok.newA(ok:Ok K G H0 W env σ H)(sm:bG H H')(Z:∀a,W' a->H a=none)(B:∀a,W' a->∃m:Mo,H' a=↑m.out)(C:∀a,G' a->Ow G W a\/H a=none){k':AK}{p:Addr}(t:∀us,dP K H' k p us->dP K H' k' p us)(h:dQ K G' W' H' (.ag k l ps) (.ref p)) :
  Ok K G H0 (λa=>W a\/W' a) env σ H'/\Step W H (λa=>W a\/W' a) H'/\dQ K G (λa=>W a\/W' a) H' (.ag k' none ps) (.ref p)/\D0 env σ H' (.ag k' none ps) (.ref p):=by
 have st:Step W H (λa=>W a\/W' a) H':=⟨λb o e _=>sm b o e,λa z=>z.imp id (Z a)⟩;have D:=ok.same sm;have c:Ok K G H0 (λa=>W a\/W' a) env σ H':=by
  refine⟨D.stay,ok.good,λa z=>?_,λi s e=>?_,D.uniq,ok.len⟩
  ·rcases z with z |z
   ·exact D.wl a z
   ·exact⟨ok.stay.free (Z a z),B a z⟩
  ·obtain⟨v,f,q⟩:=ok.slot i s e
   exact⟨v,f,ok.slstep st q λa m o g=>⟨.inl (q.owns o),sm _ _ g⟩⟩
 obtain⟨p',as,us,e,u,nd,L,I,U⟩:=h;cases e;have x:∀(a:Addr) (us:ip),Ow G' W' a->Rd H' a (.lst us)->Ow G (λa=>W a\/W' a) a/\Rd H' a (.lst us):=λa us o q=>⟨by
  rcases C a o.1 with z |z
  ·exact⟨z.1,λy=>y.elim z.2 o.2⟩
  ·exact⟨ok.good a (ok.stay.free z),λy=>y.elim (λw=>by obtain⟨_,m,q⟩:=ok.wl a w;rw[z] at q;cases q) o.2⟩,q⟩
 refine⟨c,st,⟨p,as,us,rfl,.inr u,nd,(λn z=>nomatch z),t us I,U.step (λa vs Y z=>⟨.inr (U.own Y).1,z⟩) (λd v r=>r.mono (λ_ _ h=>h) x) λd v r=>r.mono (λ_ _ h=>h) x⟩,λj s v a f g E F=>?_⟩;have J:W' a:=by
  rcases E with o | ⟨p',us',z,q,Y⟩
  ·cases o;exact u
  ·cases z
   rw[zh (t us I) q] at Y;exact(U.own (U.parts_iff.mp Y)).1
 obtain⟨M,A,q⟩:=D.slot j s f;rw[g] at A;cases A;obtain⟨_,m,z⟩:=ok.wl a (q.owns F);rw[Z a J] at z;cases z
variable{g:FG}
def K9(I:dW Nn X)(h:oN X G H0 e g)(D:‹Nn[i]?=↑y›)(V:‹swapsWith e ↑(.Name y p') pos.line X.env=pure false›) :
  eZ X G H0 (.Assign [.Name y p'] e pos) (rV i g):=⟨(qE (I.t D).nd (I.t D).n (I.t D).l h.out V (I.t D).f).imp λDn σ H Y=>by
 obtain⟨W,env,fl,env',ok,q,k⟩:=Y;unfold rV at q;cases e1:g env with
 |none=>rw[e1] at q;cases q
 |some r =>
   rw[e1] at q;cases q;exact⟨W,env,r.1,r.2,ok,e1,λW1 p H1 Z U sl a=>k W1 _ H1 Z (U.put sl a)⟩⟩
def KA(an:cA Nn Cn X)(D:‹Nn[i]?=↑x›):eZ X G H0 (.Return ↑(.Name x p') pos) (rW i):=⟨(n2 ((an.a D).pe)).imp λDn σ H I=>by
 obtain⟨W,env,fl,env',ok,q,k⟩:=I;unfold rW at q;split at q;case h_2=>cases q
 rename_i kk l ps U;cases q;obtain⟨v,V,p,as,us,rfl,h1,h2,b,Y,Z⟩:=ok.slot i _ U;exact⟨_,V,k W σ p H Step.refl ok ⟨p,as,us,rfl,h1,h2,(λn z=>nomatch z),Y,Z⟩⟩⟩
def rX(K:ic)(m:i0->Option Ag)(x:i0->h7):Sp:=λvs H Q E=>∃O ds,aI K H O ds vs /\
 ((∃y,m ds=↑y/\∀(W':Addr->Prop) p H',bG H H'->(∀a,W' a->H a=none)->(∀a,W' a->∃m:Mo,H' a=↑m.out)->dQ K (gd λa=>O a\/H a=none) W' H' (.ag y.1 none y.2) (.ref p)->Q (.ref p) H')\/∃c,x ds=↑c/\∀C H',Cl K c C->bG H H'->E (.ref C) none H')
def iE(n ar:Nat)(g:FS):i0->Option Ag:=λds=>if ds.length=ar then(match g (kr n ds) with |some (.ra k ps,_)=>↑(k,ps) |_=>none) else none
def xG(n ar:Nat)(g:FS):i0->h7:=λds=>if ds.length=ar then(match g (kr n ds) with |some (.xc c,_)=>↑c |_=>none) else none
variable{k:Nat}{ps:gs}
theorem KB{f:Addr}{g:FS}(F:gN K x qual st f fd)(S:vo N ps (iy st))(Y:n=N.length)(Z:ar=ps.length)(I:∀(cdv:Value) (A:Around) (outer:g9) (s:Shared) (H:Hp) (E:XK) (G:Gd) (H0:Hp),bE k (A.deeper (envOfC qual (iy st) s.heap.objs.size f cdv)) ->
   fQ (cI (dM P w) P w K mg base N qual (iy st) f cdv A outer s H E) G H0 (o9 st) g):cJ P w K mg base (dM P w) (k+1) f fd ps (rX K (iE n ar g) (xG n ar g)):=by
 subst Y Z;refine F.okX S (λvs H Q E h=>?_) (λcdv A outer s H vs Q E b h=>?_)
 ·obtain⟨O,ds,r,h⟩:=h
  rw[<-r.length];rcases h with⟨y,e,_⟩ | ⟨c,e,_⟩
  ·unfold iE at e;split at e
   ·assumption
   ·cases e
  ·unfold xG at e;split at e
   ·assumption
   ·cases e
 ·obtain⟨O,ds,r,h⟩:=h
  refine⟨_,(I cdv A outer s H E (gd λa=>O a\/H a=none) H b).out,?_⟩;rcases h with⟨y,e,k⟩ | ⟨c,e,k⟩
  ·unfold iE at e
   split at e;case isFalse=>cases e
   split at e
   ·rename_i k' ps' env' U
    cases e;exact⟨c_,_,_,env',yp r,U,λW' V p H' st D sl=>k W' p H' D.stay (λa z=>(st.ws a z).elim (λz=>z.elim) id) (λa z=>(D.wl a z).2) sl⟩
   ·cases e
  ·unfold xG at e
   split at e;case isFalse=>cases e
   split at e
   ·rename_i j env' U
    cases e;exact⟨c_,_,_,env',yp r,U,λW' V H' d i st D pins e s' xs=>wF xs (k d H' i D.stay)⟩
   ·cases e
def mJ(m:i0->Option Ag)(F:FA):FG:=λe=>(F e).bind λr=>(m r.1).map λy=>(y,r.2)
def D1{m:i0->Option Ag}{xx:i0->h7}(c:b_ X.prog X.w X.K X.mg X.base (dM X.prog X.w) x k (rX X.K m xx))(Z:bE jr X.A)(b:eM X G H0 (e::es) F)(I:k<=jr:=by decide)(d:Gl X x:=by walk_at "g")(f:‹starEach (e::es) X.env=(false,eval e X.env)::starEach es X.env›)(U:‹(backTo pos (starEach es X.env)).any (·.1)=false›) :
  oN X G H0 (.Call (.Name x p') (e::es) [] pos) (mJ m F):=let ⟨_,_,_,g,h,i,j,V⟩:=c;⟨(xC g (Z.mono I) d h i j b.out V f U).imp λσ H Q l=>by
 obtain⟨W,env,y,env',ok,q,k⟩:=l;unfold mJ at q;cases e1:F env with
 |none=>rw[e1] at q;cases q
 |some r =>
   rw[e1,ae] at q;cases e2:m r.1 with
   |none=>rw[e2] at q;cases q
   |some y' =>
     rw[e2] at q;cases q;refine⟨W,env,r.1,r.2,ok,e1,λW1 vs H1 n Y o=>⟨Ow G W1,r.1,o,.inl ⟨_,e2,λW' p H' sm s t sl=>?_⟩⟩⟩;obtain⟨u,v,B,C⟩:=Y.newA sm s t (λa z=>z) (k':=y.1) (λus z=>z) sl;exact k _ p H' (n.trans v) u B C⟩
def oO(c:Str)(m:ka->i0->kb)(F:FA):FG:=λe=>(F e).bind λr=>(m [(.ins true c [],[])] r.1).bind λq=>match q with
 | (.non,[(.ins true c' fs,ps)])=>↑((.ins false c' fs,ps),r.2) |_=>none
def KC{D dx:Addr}(ok:Ok K G H0 W env σ H)(Y:Cl K cn C)(h1:H D=none)(h2:H dx=none)(j:dx≠D)(r:aI K H (Ow G W) ds vs) :
  bG H (a_ (a_ H dx (.own D)) D (.ins C dx [])) /\
  Ok K ⟨Ow G W,λ_=>[D]⟩ (gS (a_ (a_ H dx (.own D)) D (.ins C dx [])) (λb=>b=D)) (λb=>b=D) (sw [(.ins true cn [],[])]) [↑(.ref D)] (a_ (a_ H dx (.own D)) D (.ins C dx [])) /\
  aI K (a_ (a_ H dx (.own D)) D (.ins C dx [])) (Ow ⟨Ow G W,λ_=>[D]⟩ (λb=>b=D)) ds vs:=by
 have sm:bG H (a_ (a_ H dx (.own D)) D (.ins C dx [])):=λb o e=>by rw[jh (rh e h1),jh (rh e h2)];exact e
 have U:∀a,H a=none->Ow G W a:=λa z=>⟨ok.good a (ok.stay.free z),λw=>by obtain⟨_,m,q⟩:=ok.wl a w;rw[z] at q;cases q⟩;refine⟨sm,⟨λa o e=>(Dk e).2,λa e=>?_,λa e=>⟨xA e,.i C dx [],by rw[show a=D from e,og]⟩,λI s e=>?_,λI Z s s' v k b c d l p t x=>?_,rfl⟩,?_⟩
 ·rcases Dl e with z |z
  ·rw[show a=D from z];exact U D h1
  ·refine U a ?_
   by_cases y:a=D
   ·rw[y];exact h1
   ·rw[jh y] at z
    by_cases V:a=dx
    ·rw[V];exact h2
    ·rwa [jh V] at z
 ·obtain⟨A,q,rfl⟩:=rM e
  cases I with
  |zero =>
    simp at q;subst q;exact⟨.ref D,rfl,D,[],[],rfl,rfl,by simp,λn _=>rfl,⟨C,dx,Y,og,rfl⟩,.nil⟩
  |succ n=>simp at q
 ·obtain⟨_,f,_⟩:=rM c
  obtain⟨_,g,_⟩:=rM d;cases I with
  |zero=>cases Z with
    |zero=>rfl |succ n=>simp at g
  |succ n=>simp at f
 ·refine r.mono (λa u z=>sm _ _ z) λa us o h=>⟨⟨o,λz=>?_⟩,h.keep λo z=>sm _ _ z⟩
  rw[show a=D from z] at h;rcases h with h | ⟨_,h⟩ <;> (have h2:=h1.symm.trans h;cases h2)
def KD{m:ka->i0->kb}(c:k_ X.prog X.w X.K X.mg X.base x k (iR X.K m xx))(Z:bE jr X.A)(t:eM X G H0 (e::es) F)(d:k+1<=jr:=by decide)(u:Gl X x:=by walk_at "g")(B:‹starEach (e::es) X.env=(false,eval e X.env)::starEach es X.env›)(f:‹(backTo pos (starEach es X.env)).any (·.1)=false›) :
  oN X G H0 (.Call (.Name x p') (e::es) [] pos) (oO x m F):=let ⟨_,_,_,_,M,C,E,J,L,g⟩:=c;⟨(Kx M C (Z.mono d) u E J t.out g B f).imp λσ H Q N=>by
 obtain⟨W,env,y,env',ok,q,k⟩:=N;unfold oO at q;cases e1:F env with
 |none=>rw[e1] at q;cases q
 |some r =>
   rw[e1,ae] at q;cases e2:m [(.ins true x [],[])] r.1 with
   |none=>rw[e2] at q;cases q
   |some z =>
     rw[e2,ae] at q;split at q;case h_2=>cases q
     rename_i n U ps';cases q;refine⟨W,env,r.1,r.2,ok,e1,λW1 vs H1 O V P I dx h1 h2 R=>?_⟩;obtain⟨sm,h,Z⟩:=KC V L h1 h2 R P;refine⟨_,_,_,_,[.ref I],r.1,vs,rfl,rfl,h,Z,.inl ⟨_,_,e2,λW' en S v H' st Y T rp=>⟨rp.non_,?_⟩⟩⟩;have hs:=T 0 _ rfl;obtain⟨v',z1,s⟩:=Y.slot 0 _ hs;have ev:v'=.ref I:=by
      obtain⟨p,as,us,rfl,_,_,i,_⟩:=s;have i:([I]:gy)=[p]:=i 0 rfl;cases i;rfl
     subst ev;have j:bG H1 H':=λb o z=>st.keep b o (sm b o z) λy=>by rw[show b=I from y,h1] at z;cases z
     have hn:∀a,W' a->H1 a=none:=λa z=>by
      rcases st.ws a z with y |y
      ·rw[show a=I from y];exact h1
      ·cases q:H1 a with
       |none=>rfl |some o=>rw[sm a o q] at y;cases y
     obtain⟨w1,w2,w3,w4⟩:=V.newA (G':=⟨Ow G W1,λ_=>[I]⟩) (k:=.ins true n U) (l:=↑0) (ps:=ps') (p:=I) (k':=.ins false n U) j hn (λa z=>(Y.wl a z).2) (λa z=>.inl z) (λus z=>z) s;exact k _ I H' (O.trans w2) w1 w3 w4⟩
mutual
def noL:D->Bool
 | .lst _=>false | .dct _ _=>false | .tup ds=>noLs ds |_=>true
def noLs:i0->Bool
 | []=>true |d::r=>noL d && noLs r
end
def bB.noL{d:D}{v:V}:bB K H O d v->L2.noL d=true->bB K H O' d v :=
 bB.rec (motive_1:=λd v _=>L2.noL d=true->bB K H O' d v) (motive_2:=λds vs _=>L2.noLs ds=true->aI K H O' ds vs) (λ_=>.non) (λb _=>.bl b) (λb _=>.int b) (λb _=>.str b) (λh _ q e=>.tup h (q (by rw[L2.noL] at e;exact e))) (λ_ _ _ _ e=>by rw[L2.noL] at e;cases e) (λ_ _ _ e=>by rw[L2.noL] at e;cases e) (λ_ _ _ e=>by rw[L2.noL] at e;cases e) (λa _=>.exc a) (λ_=>.nil) λ_ _ p q e=>by rw[L2.noLs,fq] at e;exact .cons (p e.1) (q e.2)
def oP:Pt->D | .d d=>d | .o ds=>.lst ds
def wz(r:Nat):aQ->Option js
 | []=>none |some (.ag .ls ↑r' ps)::e=>if r'=r then ↑ps else wz r e
 |_::e=>wz r e
def ye:js->Nat->Option i0
 | .o ds::_,0=>↑ds | .o _::r,j+1=>ye r j | .d _::r,j=>ye r j | [],_=>none
def rY(b:Bool)(ps:js):js:=if b=true then ps.map λp=>.d (oP p) else ps
def oQ(b:Bool)(env:aQ):j0->j0
 |some (.sh d)=>⇑d |some (.ow ds)=>⇑(.lst ds) |some (.o2 dss)=>⇑(.lst (dss.map D.lst)) |some (.ag .ls _ ps)=>⇑(.lst (ps.map oP)) |some (.ag k _ ps)=>↑(.ro k (rY b ps)) |some (.ro .ls ps)=>⇑(.lst (ps.map oP)) |some (.ro k ps)=>↑(.ro k (rY b ps)) |some (.al r j)=>(wz r env).bind λps=>(ye ps j).map λds=>.sh (.lst ds) |none=>none
def frz(b:Bool)(env:aQ):aQ:=env.map (oQ b env)
def iF(r:Nat->gy):Gd:=⟨λ_=>True,r⟩
def xN{r:Nat}{ps:js}:∀ {env:aQ},wz r env=↑ps->∃i:Nat,env[i]?=↑↑(Sl.ag AK.ls ↑r ps)
 |x::e,h=>by
   unfold wz at h;split at h
   ·rename_i D;cases D
   ·rename_i U ps' e' q
    cases q;split at h
    ·rename_i I;cases h;subst I;exact⟨0,rfl⟩
    ·obtain⟨i,z⟩:=xN h;exact⟨i+1,by simpa using z⟩
   ·rename_i q
    cases q;obtain⟨i,z⟩:=xN h;exact⟨i+1,by simpa using z⟩
variable{a:Addr}{ps:js}
def KF(h:bC K G W H ps as us)(e:ye ps j=↑ds)(ea:as[j]?=↑a):∃vs,H a=↑(.lst vs)/\aI K H (Ow G W) ds vs:=by
 induction h generalizing j with
 |nil=>cases e
 |d _ _ ih=>exact ih e ea |o hW hl r _ ih =>
   cases j with
   |zero=>cases e;simp at ea;subst ea;exact⟨_,hl,r⟩
   |succ j=>exact ih (j:=j) e (by simpa using ea)
def bK.all(h:bK K G W H ps us)(D:∀a,O a):aI K H O (ps.map oP) us:=by
 induction h with
 |nil=>exact .nil |d r _ ih=>exact .cons ((se λa _=>D a).1 _ _ r) ih |o _ hl r _ ih=>exact .cons (.lst (D _) (.inl hl) ((se λa _=>D a).2 _ _ r)) ih
def bK.roG(h:bK K G W H ps us)(D:∀a,Ow G W a->Ow G' c_ a):bK K G' c_ H ps us :=
 h.step (λa vs _ z=>⟨λz=>z,z⟩) (λd v q=>(se D).1 d v q) λd v q=>(se D).2 d v q
def bC.toRo(h:bC K G W H ps as us)(D:∀a,Ow G W a->Ow G' c_ a):bK K G' c_ H ps us :=
 bK.roG (W:=c_) (G:=gd (Ow G W)) h.ro λa z=>D a z.1
def bK.dat(h:bK K G W H ps us)(D:∀a,Ow G W a):bK K G W H (ps.map λp=>.d (oP p)) us:=by
 induction h with
 |nil=>exact .nil |d r _ ih=>exact .d r ih |o _ hl r _ ih=>exact .d (.lst (D _) (.inl hl) r) ih
def bK.roB(b:Bool)(h:bK K G W H ps us)(D:∀a,Ow G W a):bK K G W H (rY b ps) us:=by
 unfold rY;split
 ·exact h.dat D
 ·exact h
def Ok.freeze(b:Bool)(ok:Ok K G H0 W env σ H):Ok K (iF G.r) H c_ (frz b env) σ H:=by
 have Y:∀a,Ow G W a->Ow (iF G.r) c_ a:=λa _=>⟨trivial,λz=>z⟩;have all:∀a,Ow (iF G.r) c_ a:=λa=>⟨trivial,λz=>z⟩;have Z:∀(i:Nat) (s:Sl),(frz b env)[i]?=↑↑s->∃I,env[i]?=↑↑I/\oQ b env ↑I=↑s:=λi s e=>by
  unfold frz at e;rw[bj] at e;cases q:env[i]? with
  |none=>rw[q] at e;cases e
  |some o =>
    rw[q] at e;cases o with
    |none=>cases e
    |some I=>exact⟨I,rfl,by simpa using e⟩
 refine⟨bG.refl _,λa _=>trivial,λl z=>z.elim,λi s e=>?_,λi j s s' v A a D _ F _ o _=>?_,by unfold frz;rw[ai];exact ok.len⟩
 ·obtain⟨I,x,D⟩:=Z i s e
  obtain⟨v,B,h⟩:=ok.slot i I x;refine⟨v,B,?_⟩;cases I with
  |sh d=>cases D;exact(se Y).1 _ _ h
  |ow ds=>cases D;obtain⟨l,vs,rfl,m,U,r⟩:=h;exact .lst (all l) (.inl U) ((se Y).2 _ _ r)
  |o2 dss =>
    cases D;obtain⟨l,ls,rfl,m,U,nd,hi⟩:=h;exact .lst (all l) (.inl U) (vU (W':=c_) (G:=iF G.r) (W:=W) ⟨hi.1,λj ds a g n=>let ⟨t,vs,u,C⟩:=hi.2 j ds a g n;⟨t,vs,u,(se λb z=>⟨trivial,z.2⟩).2 _ _ C⟩⟩ (λa _ _=>all a) λds vs r=>(se λb _=>all b).2 _ _ r)
  |ag k l ps =>
    obtain⟨p,as,us,rfl,m,nd,U,f,V⟩:=h;cases k with
    |ls=>cases D;exact .lst (all p) (.inl f) ((V.toRo Y).all all)
    |ins _ c fs=>cases D;exact⟨p,us,rfl,λz=>z,f,(V.toRo Y).roB b all⟩
  |ro k ps =>
    obtain⟨p,us,rfl,m,f,V⟩:=h;cases k with
    |ls=>cases D;exact .lst (all p) (.inl f) (V.all all)
    |ins _ c fs=>cases D;exact⟨p,us,rfl,λz=>z,f,(V.roG Y).roB b all⟩
  |al r j =>
    have D:((wz r env).bind λps=>(ye ps j).map λds=>Sl.sh (.lst ds))=↑s:=D;cases q1:wz r env with
    |none=>rw[q1] at D;cases D
    |some ps =>
      rw[q1,ae] at D;cases q2:ye ps j with
      |none=>rw[q2] at D;cases D
      |some ds =>
        rw[q2] at D;cases D;obtain⟨p,as,a,g,n,rfl⟩:=h;obtain⟨E,y⟩:=xN q1;obtain⟨A,J,p',w,us,rfl,_,_,U,_,V⟩:=ok.slot E _ y;have U:G.r r=p'::w:=U r rfl;rw[U] at g;cases g;obtain⟨vs,t,u⟩:=KF V q2 n;exact .lst (all a) (.inl t) ((se Y).2 _ _ u)
 ·obtain⟨I,x,D⟩:=Z i s D
  cases I with
  |sh d=>cases D;exact o.elim
  |ow d=>cases D;exact o.elim
  |o2 d=>cases D;exact o.elim
  |ag k l ps=>cases k <;> (cases D;exact o.elim)
  |ro k ps=>cases k <;> (cases D;exact o.elim)
  |al r j =>
    have D:((wz r env).bind λps=>(ye ps j).map λds=>Sl.sh (.lst ds))=↑s:=D;cases q1:wz r env with
    |none=>rw[q1] at D;cases D
    |some ps =>
      rw[q1,ae] at D;cases q2:ye ps j with
      |none=>rw[q2] at D;cases D
      |some ds=>rw[q2] at D;cases D;exact o.elim
def Step.noW(s:Step c_ H W' H'):bG H H':=λb o e=>s.keep b o e λz=>z
def fI(b:Bool)(f:FE):FE:=λe=>(f (frz b e)).bind λr=>if noL r.1=true then ↑(r.1,e) else none
def y7(b:Bool)(f:FA):FA:=λe=>(f (frz b e)).bind λr=>if noLs r.1=true then ↑(r.1,e) else none
def jZ(b:Bool)(x:XF):XF:=λe=>(x (frz b e)).map λr=>(r.1,e)
section
variable {X:Cx} {G:Gd} {H0:Hp} {e:Expr} {es:h6} {f:FE} {F:FA} {F2:jW} {y:XF}
def D2{b:Bool}(h:∀G H0,aT X G H0 e f):aT X G H0 e (fI b f):=⟨λpins s σ H Q I D=>by
 obtain⟨W,env,d,env',ok,q,k⟩:=D;unfold fI at q;cases e1:f (frz b env) with
 |none=>rw[e1] at q;cases q
 |some r =>
   rw[e1,ae] at q;split at q;case isFalse=>cases q
   rename_i U;cases q;refine(h (iF G.r) H).out pins s σ H Q I ⟨c_,frz b env,r.1,r.2,ok.freeze b,e1,λW' v H' st V Y=>?_⟩;exact k W v H' (Step.same st.noW) (ok.same st.noW) (Y.noL U)⟩
def KG{b:Bool}(h:∀G H0,JX X G H0 e y):JX X G H0 e (jZ b y):=⟨λpins s σ H Q I D=>by
 obtain⟨W,env,c,env',ok,q,k⟩:=D;unfold jZ at q;cases e1:y (frz b env) with
 |none=>rw[e1] at q;cases q
 |some r =>
   rw[e1] at q;cases q;exact(h (iF G.r) H).out pins s σ H Q I ⟨c_,frz b env,r.1,r.2,ok.freeze b,e1,λW' H' C U st V=>k W H' C U (Step.same st.noW) (ok.same st.noW)⟩⟩
end
section
variable {X:Cx} {G:Gd} {H0:Hp} {e:Expr} {F2:jW}
end
def j_:j0->j0
 |some (.sh d)=>⇑d |some (.ag k _ ps)=>↑(.ro k ps) |some (.ro k ps)=>↑(.ro k ps) |_=>none
def hF(env:aQ):aQ:=env.map j_
def KH(G:Gd)(W:Addr->Prop)(H:Hp):Gd:=⟨λa=>Ow G W a\/H a=none,G.r⟩
def bC.length(h:bC K G W H ps as us):ps.length=us.length:=by
 induction h with
 |nil=>rfl |d _ _ ih=>rw[bf,bf,ih] |o _ _ _ _ ih=>rw[bf,bf,ih]
abbrev FP:=aQ->Option js
def KI(X:Cx)(G:Gd)(H0:Hp)(f:FP):TA:=λσ H Q=>∃W env ps,Ok X.K G H0 W env σ H/\f env=↑ps /\
 ∀as us H',bG H H'->as.Nodup->(∀a∈as,H a=none)->bC X.K (KH G W H) (λa=>a∈as) H' ps as us->Q us H'
structure Ot (X:Cx) (G:Gd) (H0:Hp) (es:h6) (f:FP):Prop where
 out:PA X es (KI X G H0 f)
def yz(κ:AK)(i j:Nat):FE:=λe=>if jE κ e i then(dB e i).bind λx=>(match x.2[j]? with |some (.d d)=>↑(d,e) |_=>none) else none
def xO(c:oI X.K cn m)(an:cA Nn Cn X)(U:‹Nn[i]?=↑x›)(Z:‹fs[j]?=↑m›)(nd:fs.Nodup:=by decide +kernel)(f:‹attributeBase (.Name x p') m X.env (eval (.Name x p') X.env)=eval (.Name x p') X.env›):aT X G H0 (.Attribute (.Name x p') m pos) (yz (.ins false cn fs) i j):=let ⟨C,c,b,e⟩:=c;⟨(By ((an.a U).pe) f).imp λσ H Q g=>by
  obtain⟨W,env,d,env',ok,q,k⟩:=g;unfold yz at q;split at q;case isFalse=>cases q
  rename_i h;cases D:dB env i with
  |none=>rw[D] at q;cases q
  |some y =>
    rw[D,ae] at q;split at q;case h_2=>cases q
    rename_i d' hd;cases q;rcases h with⟨l,ps',z⟩ | ⟨ps',z⟩
    ·have D:↑(AK.ins false cn fs,ps')=↑y:=by unfold dB at D;rw[z] at D;exact D
     cases D;obtain⟨v,D,p,as,us,rfl,_,_,_,⟨n,dx,V,I,o⟩,Y⟩:=ok.slot i _ z;rw[Cl.inj V e] at I;obtain⟨u,h1,h2⟩:=Y.getD hd;exact⟨_,D,p,C,dx,_,u,rfl,I,c,b,xM nd Z h1,k W u H Step.refl ok h2⟩
    ·have D:↑(AK.ins false cn fs,ps')=↑y:=by unfold dB at D;rw[z] at D;exact D
     cases D;obtain⟨v,D,p,us,rfl,_,⟨n,dx,V,I,o⟩,Y⟩:=ok.slot i _ z;rw[Cl.inj V e] at I;obtain⟨u,h1,h2⟩:=Y.getD hd;exact⟨_,D,p,C,dx,_,u,rfl,I,c,b,xM nd Z h1,k W u H Step.refl ok h2⟩⟩
variable{l:Addr}
def Ok.chgN(ok:Ok K G H0 W env σ H){s s':Sl}(U:Mo)(e:env[i]?=↑↑s)(Y:σ[i]?=↑↑v)(B:bS H s v a)(E:dQ K G W (a_ H a U.out) s' v)(C:∀(j:Nat) (s:Sl) (v:V),env[j]?=↑↑s->σ[j]?=↑↑v->¬bS H s v l)(w:∀b,bS (a_ H a U.out) s' v b->bS H s v b\/b=l):Ok K G H0 W (env.set i ↑s') σ (a_ H a U.out)/\Step W H W (a_ H a U.out):=by
 have m:W a:=by obtain⟨F,r,h⟩:=ok.slot i s e;rw[Y] at r;cases r;exact h.owns B
 have st:Step W H W (a_ H a U.out):=⟨λb o q n=>by rw[jh (λz:b=a=>n (by rw[z];exact m))];exact q,λb z=>.inl z⟩;have y:∀ {j:Nat} {sl:Sl} {u:V} {b:Addr},i≠j->env[j]?=↑↑sl->σ[j]?=↑↑u->bS H sl u b->b≠a:=λ{j sl u b} hj q Z o z=>by
  subst z;exact hj (ok.uniq i j s sl v u b e q Y Z B o)
 have bk:∀ {j:Nat} {sl:Sl} {u:V} {b:Addr},i≠j->env[j]?=↑↑sl->σ[j]?=↑↑u->bS (a_ H a U.out) sl u b->bS H sl u b:=λ{j sl u b} hj q Z o=>by
  obtain⟨J,f,h⟩:=ok.slot j sl q;rw[Z] at f;cases f;cases sl with
  |sh d=>exact o.elim |ow ds=>exact o |o2 dss=>exact h.back (λl D _ vs I=>by rw[jh (y hj q Z (.inl D))];exact I) o |ag k p ps=>exact h.back (λl D _ vs I=>by rw[jh (y hj q Z (.inl D))];exact I) o |al _ _=>exact o.elim |ro _ _=>exact o.elim
 refine⟨⟨λb o q=>?_,ok.good,λb z=>?_,λj sl q=>?_,λj k A s2 v1 v2 b Z f D I g o2=>?_,by rw[d7,ok.len]⟩,st⟩
 ·rw[jh (λz=>by rw[z,(ok.wl a m).1] at q;cases q)];exact ok.stay b o q
 ·obtain⟨q,us,w⟩:=ok.wl b z
  by_cases h:b=a
  ·exact⟨q,U,by rw[h,og]⟩
  ·exact⟨q,us,by rw[jh h];exact w⟩
 ·rcases uh q with⟨rfl,x,_⟩ | ⟨hj,x⟩
  ·cases x
   exact⟨v,Y,E⟩
  ·obtain⟨u,r,h⟩:=ok.slot j sl x
   exact⟨u,r,ok.slstep st h λb vs o f=>⟨h.owns o,by rw[jh (y hj x r o)];exact f⟩⟩
 ·rcases uh Z with⟨a1,b1,_⟩ | ⟨a1,b1⟩ <;> rcases uh f with⟨t,c,_⟩ | ⟨t,c⟩
  ·rw[<-a1,<-t]
  ·subst a1;cases b1
   rw[Y] at D;cases D;have o2:=bk t c I o2;rcases w b g with z |z
   ·exact ok.uniq i k s s2 v v2 b e c Y I z o2
   ·subst z;exact absurd o2 (C k s2 v2 c I)
  ·subst t;cases c
   rw[Y] at I;cases I;have g:=bk a1 b1 D g;rcases w b o2 with z |z
   ·exact ok.uniq j i A s v1 v b b1 e D Y g z
   ·subst z;exact absurd g (C j A v1 b1 D)
  ·exact ok.uniq j k A s2 v1 v2 b b1 c D I (bk a1 b1 D g) (bk t c I o2)
def bC.snoc(h:bC K G W H ps as us)(D:W l)(I:H l=↑(.lst vs))(r:aI K H (Ow G W) ds vs):bC K G W H (ps++[.o ds]) (as++[l]) (us++[.ref l]):=by
 induction h with
 |nil=>exact .o D I r .nil |d q _ ih=>exact .d q ih |o a b c _ ih=>exact .o a b c ih
def D3{f:Str}{v:V}:∀ {fs:gs} {us:ip},f∉fs->fs.length=us.length->dO f v (fs.zip us)=(fs++[f]).zip (us++[v])
 | [],[],_,_=>rfl |g::fs,u::us,hf,hl=>by
   have:g≠f:=λz=>hf (by simp[z]);rw[je,lg,lg,je];show(if g=f then(g,v)::fs.zip us else(g,u)::dO f v (fs.zip us))=_;rw[cb this,D3 (λz=>hf (by simp[z])) (by simpa using hl)]
def oR(i:Nat)(cn f:Str)(F:FA):FS:=λe=>(F e).bind λr=>match r.2[i]? with
 |some ↑(.ag (.ins true c fs) l ps)=>if c=cn/\f∉fs/\fs.length<900 then ↑(.nx,r.2.set i ↑(.ag (.ins true c (fs++[f])) l (ps++[.o r.1]))) else none
 |_=>none
variable{value:Expr}
theorem D4(T:oI X.K cn m)(an:cA Nn Cn X)(he:f_ X G H0 value F)(f:‹Nn[i]?=↑x›)(hs:‹swapsWith value ↑(.Attribute (.Name x p') m p1) pos.line X.env=pure false›) :
  eZ X G H0 (.Assign [.Attribute (.Name x p') m p1] value pos) (oR i cn m F):=let ⟨C,c,hn,g⟩:=T;⟨(G_ ((an.a f).pe) he.out hs).imp λDn σ H zq=>by
 obtain⟨W,env,fl,env',ok,q,k⟩:=zq;unfold oR at q;cases e1:F env with
 |none=>rw[e1] at q;cases q
 |some r =>
   rw[e1,ae] at q;split at q;case h_2=>cases q
   rename_i L fs l ps t;split at q;case isFalse=>cases q
   rename_i u;obtain⟨rfl,hf,M⟩:=u;cases q;refine⟨W,env,r.1,r.2,ok,e1,λW1 ad vs H1 s1 Y D N O rp=>?_⟩;obtain⟨v,A,p,as,us,rfl,P,nd,hr,⟨C',dx,z1,I,d⟩,U⟩:=D.slot i _ t;rw[Cl.inj z1 g] at I;have Q:p≠ad:=λz=>by rw[z,O] at I;cases I
   have na:ad∉as:=λz=>by
    obtain⟨v',e,h⟩:=Y.slot i _ t;rw[A] at e;cases e;exact N (h.owns (.inr ⟨p,us,rfl,⟨d,C,dx,I⟩,U.parts_iff.mpr z⟩))
   refine⟨_,A,p,C,dx,fs.zip us,rfl,I,c,hn,?_,?_⟩
   ·rw[ww];lia
   ·have st:Step (cS W1 ad) H1 (cS W1 ad) (a_ H1 p (.ins C dx ((fs++[m]).zip (us++[.ref ad])))):=⟨λb o q n=>by rw[jh (λz:b=p=>n (by rw[z];exact P))];exact q,λb z=>.inl z⟩
    have B:a_ H1 p (.ins C dx ((fs++[m]).zip (us++[.ref ad]))) ad=↑(.lst vs):=by rw[jh (Ne.symm Q)];exact O
    have E:bC X.K G (cS W1 ad) (a_ H1 p (.ins C dx ((fs++[m]).zip (us++[.ref ad])))) ps as us:=U.step (λb ws R z=>⟨(U.own R).1,by rw[jh (λy:b=p=>by subst y;exact(c7.mp nd).1 R)];exact z⟩) (λ_ _ r=>D.rep st r) λ_ _ r=>D.reps st r;have Z:(fs++[m]).length=(us++[V.ref ad]).length:=by rw[ak,ak,d];rfl
    obtain⟨w1,w2⟩:=D.chgN (l:=ad) (s':=.ag (.ins true L (fs++[m])) l (ps++[.o r.1])) (.i C dx ((fs++[m]).zip (us++[.ref ad]))) t A (.inl rfl)
     ⟨p,as++[ad],us++[.ref ad],rfl,P,by
      rw[c7] at nd ⊢;refine⟨λz=>?_,ko.mpr ⟨nd.2,by simp,λy hy z u=>?_⟩⟩
      ·rcases dc.mp z with z |z
       ·exact nd.1 z
       ·exact Q (eh.mp z)
      ·rw[eh.mp u];exact λw=>na (w ▸ hy),hr,⟨C,dx,g,og,Z⟩,E.snoc (.inr rfl) B (D.reps st rp)⟩
     (λj s v e e4=>Y.noOwn N j s v e e4) λb J=>by
       rcases J with J | ⟨p',us',z,y,j,ds,h1,h2⟩
       ·exact .inl (.inl J)
       ·cases z
        have ey:us'=us++[.ref ad]:=zh (K:=X.K) (k:=.ins true L (fs++[m])) (us:=us++[.ref ad]) ⟨C,dx,g,og,Z⟩ y;rw[ey] at h2;by_cases S:j<ps.length
        ·rw[bg S] at h1
         rw[bg (by rw[<-U.length];exact S)] at h2;exact .inl (.inr ⟨p,us,rfl,⟨d,C,dx,I⟩,j,ds,h1,h2⟩)
        ·rw[cw (by rw[<-U.length];lia),<-U.length] at h2
         cases hjj:j-ps.length with
         |zero=>rw[hjj] at h2;simp at h2;exact .inr h2.symm |succ n=>rw[hjj] at h2;simp at h2
    rw[D3 hf d];exact k _ σ _ (s1.trans w2) w1⟩
end L2
namespace L2
open PySem
abbrev oa:gs:=["kept", "states"]
end L2
namespace L2
open PySem PySem.Spec PyProof.Rows
def mK(i:Nat)(g:FE)(F:FA):FS:=λe=>(F e).bind λr=>match r.2[i]? with
 |some ↑(.o2 dss)=>(g (hF r.2)).bind λq=>(match q.1 with | .int k=>(dJ dss.length k).map λj=>(.nx,r.2.set i ↑(.o2 (dss.set j r.1))) |_=>none)
 |_=>none
def D5(i:Nat)(g h f:FE):FS:=λe=>(f e).bind λr=>match r.2[i]? with
 |some ↑(.o2 dss)=>(g (hF r.2)).bind λq=>(h (hF r.2)).bind λp=>(match q.1,p.1 with
   | .int k,.int m=>(dJ dss.length k).bind λj=>(dss[j]?).bind λds=>(dJ ds.length m).map λn=>(.nx,r.2.set i ↑(.o2 (dss.set j (ds.set n r.1))))
   |_,_=>none)
 |_=>none
end L2
namespace L2
open PySem PySem.Spec PyProof.Rows PySem.F
end L2
namespace L2
open PySem PySem.Spec PyProof.Rows
def iS:D->D->jj | .int i,.int j=>if i=10/\0<=j/\j<=30 then ↑↥(i ^ j.toNat) else none |_,_=>none
variable{X:Cx}{G:Gd}{H0:Hp}
theorem KJ:fM X G H0 (rI kO λi j=>.int (i ^ j.toNat)) iS:=jO λI U d h=>by
 unfold iS at h;split at h
 ·rename_i i j
  split at h;case isFalse=>cases h
  rename_i D;cases h;obtain⟨rfl,V,h1⟩:=D;exact⟨10,j,rfl,rfl,by unfold kO;lia,rfl⟩
 ·cases h
variable{a:Expr}{f:Addr}{g:FS}{pos:Pos}
def KM{b:Expr}{f g:FE}(D:aT X G H0 a f)(I:aT X G H0 b g):aT X G H0 (.BinOp a .Pow b pos) (aD iS f g):=lP GH KJ D I
def iG(N:gs)(sc:Scope):gs:=N.filter λu=>sc.names.lookup u==some .cell
def iH(N ps:gs)(sc:Scope):Bool:=decide (sc.kind=.function) && !sc.isCoroutine && !sc.isGenerator && decide N.Nodup && decide (N.take ps.length=ps) && decide (∀y∈sc.names,y.2≠.free) && N.all λx=>hY x && (sc.names.lookup x==some .local || sc.names.lookup x==some .cell)
variable{N ps:gs}{sc:Scope}
def uu(h:iH N ps sc=true):vo N ps sc/\∀x∈N,Loc sc x/\(x==("__debug__" : Str))=false/\(x==("__classdict__" : Str))=false:=by
 unfold iH at h;simp only[fq,jl,mw,gl] at h;obtain⟨⟨⟨⟨⟨⟨h1,h2⟩,V⟩,Y⟩,I⟩,Z⟩,c⟩:=h;have U:∀x∈N,Loc sc x/\(x==("__debug__" : Str))=false/\(x==("__classdict__" : Str))=false:=λx D=>by
  obtain⟨a,b⟩:=c x D;have a:=vj a;rcases Bool.or_eq_true _ _ ▸ b with b |b
  ·exact⟨.inl (sd b),a⟩
  ·exact⟨.inr (sd b),a⟩
 exact⟨⟨h1,h2,V,Y,I,λx D=>(U x (by rw[<-I] at D;exact List.mem_of_mem_take D)).1,Z⟩,U⟩
variable{P:Program}{w:World}{K:ic}{mg:Str->gx}{base:Heap}{CX:gW}{qual:Str}{cdv:Value}{A:Around}{outer:g9}{s:Shared}{H:Hp}{E:XK}
def xm(h:iH N ps sc=true):cA N (iG N sc) (cI CX P w K mg base N qual sc f cdv A outer s H E) :=
 ⟨rfl,λi x e=>let z:=(uu h).2 x (bn e);⟨e,z.1.elim .inl λq=>.inr (.inl q),z.2.1,z.2.2⟩,λu D=>by
  obtain⟨_,h2⟩:=ji.mp D;exact .inl (sd h2)⟩
def xl(h:iH N ps sc=true):dW N (cI CX P w K mg base N qual sc f cdv A outer s H E) :=
 ⟨λi x e=>⟨(uu h).1.nd,e,((uu h).2 x (bn e)).1,.inl rfl⟩⟩
section
variable {X:Cx} {G:Gd} {H0:Hp} {i:Nat} {x:Str} {e:Expr} {pos p':Pos} {F:FA} {f2:jW}
def dW.pg{N:gs}(t:dW N X)(h:‹N[i]?=↑x›):PG X (.Name x pos) (p9 i):=uR (t.t h).nd (t.t h).n (t.t h).l (t.t h).f
def dW.psF{N:gs}(t:dW N X)(D:f_ X G H0 e F)(h:‹N[i]?=↑x›)(I:‹swapsWith e ↑(.Name x p') pos.line X.env=pure false›):PS X (.Assign [.Name x p'] e pos) (eX (gO X.K G H0 F) (p9 i)):=qE (t.t h).nd (t.t h).n (t.t h).l D.out I (t.t h).f
end
variable{P:gu->Prop}
def KN(h:P [])(us:gu)(e:us.length=0):P us:=List.eq_nil_of_length_eq_zero e ▸ h
variable{n:Nat}
def oS(h:∀a,∀us:gu,us.length=n->P (a::us))(us:gu)(e:us.length=n+1):P us:=by
 cases us with
 |nil=>cases e
 |cons a us=>exact h a us (lx e)
def us1(h:∀a,P [a]):∀us,us.length=1->P us:=oS λa=>KN (h a)
def us2(h:∀a b,P [a,b]):∀us,us.length=2->P us:=oS λa=>us1 (P:=λus=>P (a::us)) (h a)
def us3(h:∀a b c,P [a,b,c]):∀us,us.length=3->P us:=oS λa=>us2 (P:=λus=>P (a::us)) (h a)
def us4(h:∀a b c d,P [a,b,c,d]):∀us,us.length=4->P us:=oS λa=>us3 (P:=λus=>P (a::us)) (h a)
def us5(h:∀a b c d e,P [a,b,c,d,e]):∀us,us.length=5->P us:=oS λa=>us4 (P:=λus=>P (a::us)) (h a)
def cH(K:ic)(mg:Str->gx)(st:Stmt)(x:Str)(ps:gs):Prop:=∃f fd,gN K x x st f fd/\Binds K fd ps []/\mg x=↑(.ref f)
def jG(K:ic)(C:Addr)(st:Stmt)(x qual:Str)(ps:gs):Prop:=∃f fd,gN K x qual st f fd/\Binds K fd ps []/\iM K C x f
variable{P:Program}{x:Str}{st:Stmt}{k ar:Nat}
theorem ke(T:cH K mg st x ps)(N:gs)(D:∀ {f:Addr} {cdv:Value} {A:Around} {outer:g9} {s:Shared} {H:Hp} {E:XK} {G:Gd} {H0:Hp},bE k (A.deeper (envOfC x (iy st) s.heap.objs.size f cdv)) ->
   cA N (iG N (iy st)) (cI cD P w K mg base N x (iy st) f cdv A outer s H E).nox->dW N (cI cD P w K mg base N x (iy st) f cdv A outer s H E).nox->fQ (cI cD P w K mg base N x (iy st) f cdv A outer s H E).nox G H0 (o9 st) g)(h:iH N ps (iy st)=true:=by decide +kernel)(I:hY x=true:=by decide +kernel)(U:‹n=N.length›)(V:‹ar=ps.length›):b_ P w K mg base cD x (k+1) (cT K (aR n ar g)):=by
 obtain⟨f,fd,F,b,m⟩:=T;exact⟨f,fd,ps,n_ F (uu h).1 U V λcdv A outer s H E G H0 Y=>D Y (xm h).nox (xl h).nox,m,F.kp,b,(vj I).1⟩
theorem rZ(T:cH K mg st x ps)(N:gs)(D:∀ {f:Addr} {cdv:Value} {A:Around} {outer:g9} {s:Shared} {H:Hp} {E:XK} {G:Gd} {H0:Hp},bE k (A.deeper (envOfC x (iy st) s.heap.objs.size f cdv)) ->
   cA N (iG N (iy st)) (cI cD P w K mg base N x (iy st) f cdv A outer s H E).nox->dW N (cI cD P w K mg base N x (iy st) f cdv A outer s H E).nox->fQ (cI cD P w K mg base N x (iy st) f cdv A outer s H E).nox G H0 (o9 st) g)(h:iH N ps (iy st)=true:=by decide +kernel)(I:hY x=true:=by decide +kernel)(U:‹n=N.length›)(V:‹ar=ps.length›):b_ P w K mg base cD x (k+1) (jQ K (fW n ar g)):=by
 obtain⟨f,fd,F,b,m⟩:=T;exact⟨f,fd,ps,wM F (uu h).1 U V λcdv A outer s H E G H0 Y=>D Y (xm h).nox (xl h).nox,m,F.kp,b,(vj I).1⟩
abbrev Bd(P:Program)(w:World)(K:ic)(mg:Str->gx)(base:Heap)(N:gs)(qual:Str)(st:Stmt)(k:Nat)(g:FS):Prop:=∀ {f:Addr} {cdv:Value} {A:Around} {outer:g9} {s:Shared} {H:Hp} {E:XK} {G:Gd} {H0:Hp},bE k (A.deeper (envOfC qual (iy st) s.heap.objs.size f cdv)) ->
   cA N (iG N (iy st)) (cI (dM P w) P w K mg base N qual (iy st) f cdv A outer s H E)->dW N (cI (dM P w) P w K mg base N qual (iy st) f cdv A outer s H E)->fQ (cI (dM P w) P w K mg base N qual (iy st) f cdv A outer s H E) G H0 (o9 st) g
theorem cH.cal{sp:Sp}(T:cH K mg st x ps)(D:hY x=true)(h:∀f fd,gN K x x st f fd->cJ P w K mg base CX k f fd ps sp):b_ P w K mg base CX x k sp:=by
 obtain⟨f,fd,F,b,m⟩:=T;exact⟨f,fd,ps,h f fd F,m,F.kp,b,(vj D).1⟩
variable{p:Nat}
def sj(T:cH K mg st x ps)(N:gs)(D:Bd P w K mg base N x st k g)(h:iH N ps (iy st)=true:=by decide +kernel)(I:hY x=true:=by decide +kernel)(U:‹n=N.length›)(V:‹p+ar=ps.length›):b_ P w K mg base (dM P w) x (k+1) (fE K (cB n p ar g) (xQ n p ar g)) :=
 T.cal I λf fd F=>Do F (uu h).1 U V λcdv A outer s H E G H0 Y=>D Y (xm h) (xl h)
def KO(T:cH K mg st x ps)(N:gs)(D:Bd P w K mg base N x st k g)(h:iH N ps (iy st)=true:=by decide +kernel)(I:hY x=true:=by decide +kernel)(U:‹n=N.length›)(V:‹ar=ps.length›):b_ P w K mg base (dM P w) x (k+1) (rX K (iE n ar g) (xG n ar g)) :=
 T.cal I λf fd F=>KB F (uu h).1 U V λcdv A outer s H E G H0 Y=>D Y (xm h) (xl h)
variable{C:Addr}{cn:Str}
def xP(D:Cl K cn C)(c:hB K C)(T:jG K C st x qual ps)(N:gs)(I:Bd P w K mg base N qual st k g)(h:iH N ps (iy st)=true:=by decide +kernel)(U:‹n=N.length›)(V:‹p+ar=ps.length›):fH P w K mg base cn x (k+1) (fE K (cB n p ar g) (xQ n p ar g)):=by
 obtain⟨f,fd,F,b,m⟩:=T;exact⟨C,f,fd,ps,c,m,Do F (uu h).1 U V λcdv A outer s H E G H0 Y=>I Y (xm h) (xl h),b,D⟩
def D6(D:Cl K cn C)(c:hB K C)(T:jG K C st x qual ps)(N:gs)(I:Bd P w K mg base N qual st k g)(h:iH N ps (iy st)=true:=by decide +kernel)(U:‹n=N.length›)(V:‹p+ar=ps.length›):fH P w K mg base cn x (k+1) (iR K (fR n p ar g) (xL n p ar g)):=by
 obtain⟨f,fd,F,b,m⟩:=T;exact⟨C,f,fd,ps,c,m,Dp F (uu h).1 U V λcdv A outer s H E G H0 Y=>I Y (xm h) (xl h),b,D⟩
def KP(D:Cl K cn C)(I:mg cn=↑(.ref C))(U:PySem.W.makesIn K C=true)(kp:PySem.W.keepIn K (.ref C)=true)(T:jG K C st "__init__" qual ps)(N:gs)(V:Bd P w K mg base N qual st k g)(h:iH N ps (iy st)=true:=by decide +kernel)(Y:hY cn=true:=by decide +kernel)(Z:‹n=N.length›)(a:‹p+ar=ps.length›) :
  k_ P w K mg base cn (k+1) (iR K (fR n p ar g) (xL n p ar g)):=by
 obtain⟨f,fd,F,b,m⟩:=T;exact⟨C,f,fd,ps,⟨U,m.at_,m.fn,kp⟩,Dp F (uu h).1 Z a λcdv A outer s H E G H0 c=>V c (xm h) (xl h),I,b,D,(vj Y).1⟩
def KQ(N:gs)(D:∀ {f:Addr} {cdv:Value} {A:Around} {outer:g9} {s:Shared} {H:Hp} {E:XK} {G:Gd} {H0:Hp},bE k (A.deeper (envOfC x (iy st) s.heap.objs.size f cdv)) ->
   cA N (iG N (iy st)) (cI cD P w K mg base N x (iy st) f cdv A outer s H E).nox->dW N (cI cD P w K mg base N x (iy st) f cdv A outer s H E).nox->fQ (cI cD P w K mg base N x (iy st) f cdv A outer s H E).nox G H0 (o9 st) g)(h:iH N ps (iy st)=true:=by decide +kernel)(I:‹n=N.length›)(U:‹ar=ps.length›):∀f fd,gN K x x st f fd->cJ P w K mg base cD (k+1) f fd ps (cT K (aR n ar g)) :=
 λf fd F=>n_ F (uu h).1 I U λcdv A outer s H E G H0 V=>D V (xm h).nox (xl h).nox
variable{h:Heap}{oc:Value}{od an:Option Addr}{osl:Array gx}
def law_mk{fa:Addr}{s:Str}{m:i0->jj}{kV I V cdv ct:Value}(X:K.In h)(G:h.Ns mainGlobals mg)(U:mg x=↑(.ref fa))(a:PySem.W.nsIn K mainGlobals x=↑↑(.ref f))(l:K.lookup f=↑⟨oc,od,.func (PySem.W.fnOf x x (xt st) (o9 st) (iy st) .none kV I V an cdv ct),osl⟩)(c:PySem.W.codeIn K cdv x=true)(k':PySem.W.keepIn K (.ref f)=true)(Y:∀v:Value,bindArgs (PySem.W.fnOf x x (xt st) (o9 st) (iy st) .none kV I V an cdv ct) ⟨[v],[]⟩=pure [(s,v)])(F:∀base f fd,gN K x x st f fd->cJ P w K mg base cD k f fd [s] (cT K m))(good:∀ns:g8,ns.length<=63->m [.lst (ns.map D.int)]=↑(.bl true)) :
  ∃fd:FuncData,(∀(t:Shared) (v:Value),BindsTo t fd ⟨[v],[]⟩ [(s,v)])/\∀base:Heap,K.In base->base.Ns mainGlobals mg->cJ P w K mg base cD k fa fd [s] (rz K):=by
 have e:=U.symm.trans (m7 X G a);cases e;exact⟨_,λt v=>.of_eq (Y v),λbase _ _=>Jd (F base _ _ (vJ l c k')) good⟩
def walkD{l:PySem.W.OpenLaw}{q:Program}{D:gs}{V:(Str->gx)->Heap->Prop}{U:World->Heap->Prop}{d:DefRec}{K:Params->ic}{s:Str}(Y:bE k callerA)(Z:l.most=↑63)(I:d.params.defaults=[])(b:∀(w:World) (h:Heap),U w h->(K w.params).In h)(F:∀(w:World) (mg:Str->gx) (fa:Addr) (h:Heap),(K w.params).In h->h.Ns mainGlobals mg->mg d.name=↑(.ref fa) ->
   ∃fd:FuncData,(∀(t:Shared) (u:Value),BindsTo t fd ⟨[u],[]⟩ [(s,u)])/\∀base:Heap,(K w.params).In base->base.Ns mainGlobals mg->cJ l.prog w (K w.params) mg base cD k fa fd [s] (rz (K w.params))) :
  PySem.W.WalkO q D V U l.row.toRowW d [] (λf vs=>PySem.call f vs) :=
 HU (n:=63) (k:=k) (x:=s) (CX:=λ_=>cD) (sp:=λw=>rz (K w.params)) Z (by decide) I Y b F (λ_ _ a ns c _ e=>⟨a,ns,rfl,e,c,λ_=>rfl⟩) λ_ _ _ _ _ z=>z
def def_mk{kV D I cdv ct:Value}(X:K.In h)(G:h.Ns mainGlobals mg)(a:PySem.W.nsIn K mainGlobals x=↑↑(.ref f))(l:K.lookup f=↑⟨oc,od,.func (PySem.W.fnOf x x (xt st) (o9 st) (iy st) .none kV D I an cdv ct),osl⟩)(c:PySem.W.codeIn K cdv x=true)(k:PySem.W.keepIn K (.ref f)=true)(U:∀us:gu,us.length=ps.length->bindArgs (PySem.W.fnOf x x (xt st) (o9 st) (iy st) .none kV D I an cdv ct) ⟨us,[]⟩=pure (ps.zip us)):cH K mg st x ps :=
 ⟨f,_,vJ l c k,.all U,m7 X G a⟩
def exc_mk{c:Str}(X:K.In h)(G:h.Ns mainGlobals mg)(a:PySem.W.nsIn K mainGlobals c=↑↑(.ref C))(b:PySem.W.excIn K C xI "ValueError.__new__" = true)(d:hY c=true):jF K mg c:=⟨C,a,b,m7 X G a,(vj d).1⟩
def con_mk{z:Int}{t:Tok}(X:K.In h)(G:h.Ns mainGlobals mg)(a:PySem.W.nsIn K mainGlobals x=↑↑(.int z t)):∃t,mg x=↑(.int z t):=⟨t,m7 X G a⟩
def mef_mk{kV D I cdv ct:Value}(a:PySem.W.findIn K (.ref C) x=↑↑(.ref f))(l:K.lookup f=↑⟨oc,od,.func (PySem.W.fnOf x qual (xt st) (o9 st) (iy st) .none kV D I an cdv ct),osl⟩)(c:PySem.W.codeIn K cdv qual=true)(k:PySem.W.keepIn K (.ref f)=true)(i:PySem.W.isFn K (.ref f)=true)(U:∀us:gu,us.length=ps.length->bindArgs (PySem.W.fnOf x qual (xt st) (o9 st) (iy st) .none kV D I an cdv ct) ⟨us,[]⟩=pure (ps.zip us)):jG K C st x qual ps :=
 ⟨f,_,vJ l c k,.all U,a,i,k⟩
def xR(K:ic)(a:Addr)(n:Nat):It :=
 ⟨λi H=>∃xs x,cY K H a xs/\xs.length=n/\i<n/\xs[n-1-i]?=↑x,λi H x H'=>H'=H/\∀xs,cY K H a xs->xs[n-1-i]?=↑x,λi _=>i=n⟩
variable{tg:Expr}
def KR(a it:Addr)(n:Nat):gZ P w K tg (xR K a n) [it] it (λi h=>h.IsRevIter it a ((n:Int)-1-(i:Nat))) where
 mem:=by simp
 obj:=λi h st b D=>by
  have e:b=it:=by simpa using D
  subst e;obtain⟨o,e,c,d⟩:=st;exact⟨o,e,λv z=>by rw[d] at z;cases z⟩
 keep:=λi h h' st k=>st.at λo e=>k it ⋯ o e
 item:=by
  intro X hP Z f t i pins s σ H E I Y st V;subst hP Z f;obtain⟨xs,x,y,O,hi,A⟩:=V;obtain⟨its,B,p,Q⟩:=I.list y;obtain⟨u,C,F⟩:=B.get A;obtain⟨g,j,f2,l,m,q⟩:=Y it ⋯;have r:(n:Int)-1-(i:Nat)=((n-1-i:Nat):Int):=by omega
  rw[r] at st;refine wpAny_pyNext_rev_item st p.isList (x:=u) (by simpa using C) λh' U G=>?_;have J:Inv X pins σ H { s with heap:=h' }:=I.turned (t':=s.toks) (λb o D e=>(G.2 b D).trans e) g j l m q;have L:((n-1-i:Nat):Int)-1=(n:Int)-1-((i+1:Nat):Int):=by omega
  rw[L] at U;obtain⟨o,e,c,d⟩:=id U;exact⟨u,rfl,nC (s:={ s with heap:=h' }) e c d (by decide) ⟨x,H,J,F,⟨rfl,λys M=>by rw[I.list_inj M y];exact A⟩,U,λb D=>(Y b D).1⟩⟩
 done:=by
  intro X hP Z f t i pins s σ H E I Y st V;subst hP Z f;have V:i=n:=V;subst V;obtain⟨g,j,f2,l,m,q⟩:=Y it ⋯;have r:(i:Int)-1-(i:Nat)=-1:=by omega
  rw[r] at st;exact wpAny_pyNext_rev_end (I.ok.hd t) st λh' N=>⟨rfl,I.turned (t':=s.toks) (λb o D e=>N b o D e) g j l m q⟩
 self:=λ_ _ _ _ _ st h=>wpAny_pyIter_revIter st h
def xS(K:ic)(ta:TA):TI:=λσ H R=>ta σ H λvs H1=>∃a xs,vs=[.ref a]/\cY K H1 a xs/\R (xR K a xs.length) H1
def KS{ta:TA}{p:Pos}(V:Gl X "reversed")(Y:X.mg "reversed" = none)(Z:PA X [a] ta)(c:‹starEach [a] X.env=[(false,eval a X.env)]›):PI X tg (.Call (.Name "reversed" p) [a] [] pos) (xS X.K ta):=by
 intro pins s σ H R I h;refine Call_ (wg I V Y boot_reversed (f6 (bI (Z pos pins s σ H _ I h) λus D d=>?_) c rfl));obtain⟨vs,H1,U,f,g⟩:=d;obtain⟨a,xs,e,i,q⟩:=g;subst e;cases f with
 |cons r rr =>
   cases rr;cases r;obtain⟨its,j,p,l⟩:=U.list i;refine call_reversed_list p.isList ?_;refine wpAny_pyIter_revIter ⟨_,cj _ rfl,rfl,rfl⟩ ?_;refine⟨D.heap.objs.size,[D.heap.objs.size],_,_,H1,rfl,U.kept (t':=D.toks) λb o e=>av _ e,KR a _ _,⟨_,cj _ rfl,rfl,?_⟩,λb k=>?_,q⟩
   ·have e:=j.length
    show Data.fields #[.ref a,rawInt ((its.toArray.size:Int)-1)]=_;rw[b8,<-e];simp
   ·have e:b=D.heap.objs.size:=by simpa using k
    subst e;exact U.fpOk (b6 _) (U.hok.fresh (b6 _))
def mL(ds:i0):Option i0:=match ds with | [.lst ds]=>↑ds.reverse |_=>none
def KU{W:Addr->Prop}{a:Addr}{vs:ip}{ds:i0}{env:aQ}{σ:St}(ok:Ok X.K G H0 W env σ H)(h:fU X.K H (Ow G W) a vs)(r:aI X.K H (Ow G W) ds vs):Walk X.K G (xR X.K a vs.length) W H ds.reverse where
 go:=λW' H' i d st e=>by
  have U:=r.length;have hi:i<ds.length:=by simpa using(am.mp e).1
  rw[List.getElem?_reverse hi] at e;obtain⟨v,I,Y⟩:=(ok.reps st r).get e;have h':=(ok.lsstep st h).sq;rw[U] at I;exact⟨⟨vs,v,h',rfl,by omega,I⟩,λx H'' ⟨e2,y⟩=>⟨e2,by have:=y vs h';rw[I] at this;cases this;exact Y⟩⟩
 stop:=λW' H' st=>by
  show ds.reverse.length=vs.length;rw[jy,r.length]
def KW{F:FA}{p':Pos}(U:eM X G H0 [a] F)(I:Bn X "reversed":=by walk_at "b")(V:‹starEach [a] X.env=[(false,eval a X.env)]›):iA X G H0 tg (.Call (.Name "reversed" p') [a] [] pos) (gq mL F) :=
 ⟨jA.imp (KS I.g I.m U.out V) λσ H R Y=>by
  obtain⟨W,env,ds,env',ok,q,k⟩:=Y;cases e1:F env with
  |none=>simp[e1] at q |some z =>
    obtain⟨as,env1⟩:=z;cases e2:mL as with
    |none=>simp[e1,e2] at q |some d' =>
      have q:↑(d',env1)=↑(ds,env'):=by simpa[gq,e1,e2] using q
      cases q;refine⟨W,env,as,_,ok,e1,λW1 vs H1 Z D p1=>?_⟩;unfold mL at e2;split at e2
      ·cases e2
       obtain⟨v,rfl,b⟩:=wd p1;obtain⟨a,vs,rfl,h,r⟩:=b.lst_;exact⟨a,vs,rfl,h.sq,k W1 _ H1 Z D (KU D h r)⟩
      ·cases e2⟩
def lf(o:Obj)(C:Addr):Prop:=∃vs,o.cls=.ref C/\o.data=.fields vs/\vs[2]?=some .none
def KY:entryFor table "proto.unchain" = ↑Builtin.«proto.unchain»:=entryFor_of_fast (by kernel_rfl)
variable{E:Value->Shared->Prop}{oc:Obj}{prog:Program}
def KZ{α:Type}{x c:Addr}{ox:Obj}{D:ik}{Q:α->Shared->Prop}(U:A.handled=↑(.ref c))(V:s.heap.get? c=↑oc)(Y:lf oc C)(I:s.heap.get? x=↑ox)(hd:ox.data=.fields D)(h2:2<D.size)(Z:c≠x)(h:E (.ref x) { s with heap:=s.heap.update x (Obj.mapFields (·.setIfInBounds 2 (.ref c))) }):wpAny (model prog w) A (raiseNew (.ref x):Sem α) Q E s:=by
 refine az (wpAny_handled ?_);rw[U];dsimp only;rw[ax (by simp[Z])];obtain⟨d,e,a,b⟩:=Y;refine az (jc (wpAny_runValue (qw KY ?_)));refine az (kx V a b ?_);refine az (dg (dg ?_));refine az ?_;refine az (wpAny_load I ?_);rw[hd];dsimp only;rw[ax h2];exact wpAny_update I (wpAny_throw h)
theorem K_{it:Addr}{x left step:Int}{c:Addr}{Q:gx->Shared->Prop}(V:A.handled=↑(.ref c))(U:s.heap.get? c=↑oc)(Y:lf oc C)(D:IsRangeIter s.heap it x left step)(I:left<=0)(Z:∀h',Heap.ExtBut it s.heap h'->Q none { s with heap:=h' }):wpAny (model prog w) A (pyNext (.ref it)) Q E s:=by
 have hT:s.TypeIs (.ref it) "range_iterator":=⟨_,D,rfl⟩;refine az (wpAny_attempt (wpAny_callSpecial?_slot (name:=Str.ofString "__next__") hT F.slot_range_iterator_next
  (wpAny_call_entry F.slot_range_iterator_next hT F.entry_range_iterator_next ?_ (F.args_range_iterator_next_1 _))))
 show wpAny _ _ (field (.ref it) 0 >>= _) _ _ s;refine az (kx D rfl (x:=rawInt x) rfl ?_);show wpAny _ _ (field (.ref it) 1 >>= _) _ _ s;refine az (kx D rfl (x:=rawInt left) rfl ?_);refine az (kx D rfl (x:=rawInt step) rfl ?_);show wpAny _ _ (if left<=0 then _ else _) _ _ s;rw[ax I];refine az (wpAny_rule ?_);refine az ?_;refine az ?_;refine az (m:=firstArgMember _ _) (wpAny_of_eq (a:=Value.none) (by first |rfl | (simp only[firstArgMember];rfl)) ?_);refine li ?_ (by size_fits);refine KZ (show A.in1.handled=↑(.ref c) from V) (av _ (av _ U)) Y (cj _ rfl) rfl (by simp;lia) (ce (by rw[jk];exact h9 (bw U))) ?_;refine az (wpAny_isInstance (T:="StopIteration") (b:=true) ⟨_,gz _ (cj _ rfl) (by rfl),rfl⟩ isSubtype_stop ?_);refine dg (Z _ λb o d e=>?_);rw[db _ _ (λz=>absurd (z ▸ bw e) (by rw[jk];exact Nat.not_lt.mpr (mv _)))];exact av _ (av _ e)
end L2
namespace L2
open PySem PySem.Spec PyProof.Rows PySem.W
structure gT (K:ic) (C:Addr):Prop where
 ga:PySem.W.findIn K (.ref C) "__getattribute__" = ↑↑(.builtin "BaseException.__getattribute__")
 hk:PySem.W.findIn K (.ref C) "__getattr__" = ↑none
 fd:PySem.W.findObj K C none "__class__" = ↑(.bind (.builtin "getset_descriptor.__get__") (.builtin "object.__class__"))
 ob:PySem.W.mroIn K C (.type "object")=↑true
 be:PySem.W.mroIn K C (.type "BaseException")=↑true
variable{K:ic}{w:World}{A:Around}{E:Value->Shared->Prop}{s:Shared}{x:Str}{C:Addr}{Q:Unit->Shared->Prop}
theorem La{prog:Program}{x:Addr}{ox:Obj}{Q:gx->Shared->Prop}(c:gT K C)(X:K.In s.heap)(I:PySem.W.InstAt s.heap x ox C none)(h:Q ↑(.ref C) { s with toks:=s.toks+1 }):wpAny (model prog w) A (getAttr? (.ref x) "__class__") Q E s:=by
 obtain⟨D,g,d,t,os⟩:=s;have U:=I.type (M:=model prog w);have V:=looks_findIn (M:=model prog w) X c.ga;have Y:=looks_findIn (M:=model prog w) X c.hk;have Z:=looks_find (M:=model prog w) X I c.fd;have a:=looks_mroIn (M:=model prog w) X c.be;refine az (wpAny_mkText (az (wpAny_attempt (jc (az (U.at (az (V.at ?_))))))));refine az (m:=hookBefore _) (Y.at ?_);refine az (wpAny_attempt (jc ?_));refine az (dg (nk ?_));refine l7 F.excAttr_ValueError.ga.plain F.entry_bexc_ga ?_;have b:Looks (model prog w) D (isInstance (.ref x) (.type "BaseException")) true:=U.andThen a;refine az (b.at ?_);repeat (first |wp_step |assumption)
 refine wpAny_loadPart_at I.at_ ?_;rw[I.cls];refine dg (az (Z.at ?_));refine az (jc (nk (class_get (s:=⟨D,g,d,t+1,os⟩) (ox:=ox) (od:=none) X I c.ob ?_)));exact dg (handed_on rfl (dg h))
def ll(o:Obj)(C:Addr):Prop:=lf o C/\o.dict=none
variable{h:Heap}{ea:Addr}{o:Obj}
def ll.inst(e:h.get? ea=↑o)(x:ll o C):PySem.W.InstAt h ea o C none:=by
 obtain⟨⟨vs,h1,h2,_⟩,D⟩:=x;exact⟨e,h1,by unfold notCls;rw[h2],by rw[D];trivial⟩
def Lb(c:gT K C):KitX K (.ref ea) (.ref C) (λh=>∃ox,PySem.W.InstAt h ea ox C none):=by
 obtain⟨cd,D,_⟩:=cr.mp c.fd;unfold clsIn at D;split at D;case h_2=>cases D
 rename_i b d' Y Z V;exact⟨λ_ _ _ ⟨_,I⟩=>I.type,λ_ _ X _ d f g s' k q=>by
   exact az (wpAny_loadPart (k _ _ (X _ _ V)) (dg q)),
  λh a dd its n sl X U=>Bool.eq_false_iff.mpr λq=>by
   have e:C=a:=Value.ref.inj (l8.mp q);subst e;have z:=(X _ _ V).symm.trans U
   (injection z with z;injection z with _ _ z;cases z),
  λX ⟨_,I⟩ k=>La c X I k⟩
structure Hd (ea C:Addr) (X:Cx):Prop where
 hh:X.A.handled=↑(.ref ea)
 ob:∃o,X.s₀.heap.get? ea=↑o/\ll o C
 h0:X.H₀ ea=none
 nf:ea∉X.fs
 nx:ea∉X.ex
variable{X:Cx}{pins:ii}{σ:St}{H:Hp}
def Hd.at(h:Hd ea C X)(I:Inv X pins σ H s):∃o,s.heap.get? ea=↑o/\ll o C/\H ea=none :=
 let ⟨o,e,c⟩:=h.ob;⟨o,I.base.keep ea o e h.h0 h.nf h.nx,c,I.base.free ea o e h.h0 h.nx⟩
def Hd.comp{N':gs}{sc:Scope}{cl:List (Str×Addr)}{D:Addr}{fp:gy}(h:Hd ea C X)(I:Inv X pins σ H s)(U:∀b∈fp,dN X pins H b):Hd ea C (kz X x N' sc cl D s H fp):=by
 obtain⟨Y,V,_⟩:=h.ob;obtain⟨o,e,c,n⟩:=h.at I;have lt:=bw V;refine⟨h.hh,⟨o,e,c⟩,n,λz=>?_,λz=>?_⟩
 ·rcases cf.mp (I.stkSub ea z) with q |q
  ·exact absurd (bz lt (q ▸ I.ok.above)) (gv _)
  ·exact h.nf q
 ·rcases(U ea z).2.2.2.1 with q |q
  ·exact h.nx q
  ·exact absurd (bz lt q) (gv _)
variable{P:Program}
theorem Lc{tg:Expr}(it:Addr)(lo:Int)(n:Nat):za (Hd ea C) P w K tg (jJ lo n) [it] it (λi h=>IsRangeIter h it (lo+(i:Nat)*1) ((n:Int)-(i:Nat)) 1) where
 mem:=by simp
 obj:=(nD (P:=P) (w:=w) (K:=K) (tg:=tg) it lo n).obj
 keep:=(nD (P:=P) (w:=w) (K:=K) (tg:=tg) it lo n).keep
 item:=by
  intro X hP m p a i pins s σ H E I Y st Z;obtain⟨d,f,f2,g,j,k⟩:=Y it ⋯;have Z:i<n:=Z;refine wpAny_pyNext_range_item st ∅ λh' D l=>?_;have q:Inv X pins σ H { s with heap:=h',toks:=s.toks+1 }:=I.turned (λb o U e=>l.extBut b o U e) d f g j k;have r:lo+((i+1:Nat):Int)*1=lo+(i:Int)*1+1:=by lia
  have t:(n:Int)-((i+1:Nat):Int)=(n:Int)-(i:Int)-1:=by lia
  have V:IsRangeIter h' it (lo+((i+1:Nat):Int)*1) ((n:Int)-((i+1:Nat):Int)) 1:=by rw[r,t];exact D
  refine⟨_,rfl,nC (s:={ s with heap:=h',toks:=s.toks+1 }) (n:="range_iterator") V rfl rfl (by decide) ⟨.int (lo+i),H,q,⟨s.toks,?_⟩,⟨rfl,rfl⟩,V,λb U=>(Y b U).1⟩⟩;rw[Int.mul_one]
 done:=by
  intro X hP m p a i pins s σ H E I Y st Z;obtain⟨d,f,f2,g,j,k⟩:=Y it ⋯;obtain⟨o,e,⟨c,_⟩,_⟩:=a.at I;exact K_ a.hh e c st (by have:n<=i:=Z;lia) λh' u=>⟨rfl,I.turned (t':=s.toks) (λb o U e=>u b o U e) d f g j k⟩
 self:=(nD (P:=P) (w:=w) (K:=K) (tg:=tg) it lo n).self
variable{a e:Expr}
def cZ(ea:Addr)(i:Nat)(b:Bool):FE:=λe=>match e[i]? with |some ⇑(.exc a)=>if a=ea then ↑(.bl b,e) else none |_=>none
variable{b:Expr}
def Ld(hd:Hd ea C X)(U:gT X.K C):rq X (.builtin "isinstance") (λxs H Q=>∃v u b,xs=[.ref ea,v]/\RelV v u/\(∀D,RelV v D->D=u)/\PySem.W.kitOne X.K (.ref C) u=↑b/\Q (.bl b) H):=by
 intro pins s σ H xs us Q I r h;obtain⟨v,u,b,rfl,_,V,e,q⟩:=h;obtain⟨Y,D,rfl,Z,rt⟩:=lK r;cases (show Y=Value.ref ea from Z);cases V D rt;obtain⟨o,a,c,_⟩:=hd.at I;exact fu (Lb U) I.kIn ⟨o,c.inst a⟩ e (λz=>nomatch z) λtk=>⟨.bl b,H,I.tok tk,rfl,q⟩
variable{b:Bool}{Nn Cn:gs}{i:Nat}{cn:Str}{G:Gd}{H0:Hp}{pos p' p1 p2:Pos}
def D7{v:V}{u:Value}(hd:Hd ea C X)(f:gT X.K C)(h:PE X (.Name cn p2) (tC v))(j:RelV v u)(l:∀Z,RelV v Z->Z=u)(n:PySem.W.kitOne X.K (.ref C) u=↑b)(an:cA Nn Cn X)(c:Bn X "isinstance":=by walk_at "b")(D:‹Nn[i]?=↑x›)(e:‹starEach [.Name x p1,.Name cn p2] X.env=(false,eval (.Name x p1) X.env)::starEach [.Name cn p2] X.env›)(I:‹starEach [.Name cn p2] X.env=(false,eval (.Name cn p2) X.env)::starEach [] X.env›)(U:‹(backTo pos (starEach [.Name cn p2] X.env)).any (·.1)=false›) :
  aT X G H0 (.Call (.Name "isinstance" p') [.Name x p1,.Name cn p2] [] pos) (cZ ea i b) :=
 ⟨(lL (Ld hd f) c.g c.m w6 (oy ((an.a D).pe) (oy h qt I) e) (by decide) (by decide) e U).imp λσ H Q o=>by
  obtain⟨W,env,d,env',ok,q,k⟩:=o;unfold cZ at q;split at q
  ·rename_i t p
   split at q;case isFalse=>cases q
   rename_i Y;subst Y;cases q;obtain⟨w,s,r⟩:=ok.slot i _ p;obtain rfl:=bB.exc_ r;exact⟨_,s,v,u,b,rfl,j,l,n,k W _ H Step.refl ok (.bl b)⟩
  ·cases q⟩
variable{g:FE}
def Le{R:Addr}(hd:Hd ea C X)(Y:gT X.K C)(Z:X.mg cn=↑(.ref R))(a:PySem.W.kitOne X.K (.ref C) (.ref R)=↑b)(an:cA Nn Cn X)(c:Gl X cn:=by walk_at "g")(D:(cn==("__debug__" : Str))=false:=by decide)(d:Bn X "isinstance":=by walk_at "b")(I:‹Nn[i]?=↑x›)(e:‹starEach [.Name x p1,.Name cn p2] X.env=(false,eval (.Name x p1) X.env)::starEach [.Name cn p2] X.env›)(U:‹starEach [.Name cn p2] X.env=(false,eval (.Name cn p2) X.env)::starEach [] X.env›)(V:‹(backTo pos (starEach [.Name cn p2] X.env)).any (·.1)=false›) :
  aT X G H0 (.Call (.Name "isinstance" p') [.Name x p1,.Name cn p2] [] pos) (cZ ea i b):=D7 hd Y (AZ (v:=.ref R) c Z rfl D) rfl (λ_ z=>z) a an d I e U V
def Lf:bootBuiltins "ValueError" = ↑(.type "ValueError"):=by decide +kernel
def Lg(hd:Hd ea C X)(Y:gT X.K C)(Z:PySem.W.kitOne X.K (.ref C) (.type "ValueError")=↑b)(an:cA Nn Cn X)(V:Bn X "ValueError":=by walk_at "b")(a:Bn X "isinstance":=by walk_at "b")(D:‹Nn[i]?=↑x›)(c:‹starEach [.Name x p1,.Name "ValueError" p2] X.env=(false,eval (.Name x p1) X.env)::starEach [.Name "ValueError" p2] X.env›)(I:‹starEach [.Name "ValueError" p2] X.env=(false,eval (.Name "ValueError" p2) X.env)::starEach [] X.env›)(U:‹(backTo pos (starEach [.Name "ValueError" p2] X.env)).any (·.1)=false›) :
  aT X G H0 (.Call (.Name "isinstance" p') [.Name x p1,.Name "ValueError" p2] [] pos) (cZ ea i b):=D7 hd Y (uK (v:=.ty "ValueError") V.g V.m Lf rfl) rfl (λ_ z=>z) Z an a D c I U
def iU:i0->jj | [.lst ds]=>↑(.tup ds) |_=>none
def Lh:bootBuiltins "tuple" = ↑(.type "tuple"):=by decide +kernel
def Li:xf X G H0 (λxs H Q=>∃p ys,xs=[.ref p]/\((cY X.K H p ys/\∀l,H l=none->Q (.ref l) (a_ H l (.tup ys)))\/(dV X.K H p ys/\Q (.ref p) H))) iU:=by
 intro W env σ H vs ds d Q ok r e k;unfold iU at e;split at e
 ·cases e
  obtain⟨v,rfl,D⟩:=wd r;obtain⟨a,us,rfl,h,r⟩:=D.lst_;refine⟨a,us,rfl,.inl ⟨h.sq,λl I=>?_⟩⟩;have sm:bG H (a_ H l (.tup us)):=zr I;exact k _ _ (Step.same sm) (ok.same sm) (.tup og (ok.reps (Step.same sm) r))
 ·cases e
variable{b:Expr}{F:FA}
def Lj(I:eM X G H0 [e] F)(D:Bn X "tuple":=by walk_at "b")(U:‹starEach [e] X.env=(false,eval e X.env)::starEach [] X.env›):aT X G H0 (.Call (.Name "tuple" p') [e] [] pos) (e9 iU F):=BY H5 Li D.g D.m Lh I (by decide) (by decide) U rfl
abbrev Cx.hush(X:Cx)(A:Around)(p:ii):Cx:={ X with A:=A,calm:=false,pn:=p++X.pn }
variable{p:ii}
def Inv.hush(I:Inv X pins σ H s)(hA:A.frames=X.A.frames)(D:∀q∈p,s.heap.get? q.1=↑q.2/\H q.1=none/\q.1≠X.env.locals/\q.1∉X.fs/\∀v,q.2.data≠.cell v):Inv (X.hush A p) pins σ H s :=
 ⟨⟨I.ok.mod,I.ok.kind,I.ok.glob,I.ok.blt,I.ok.above,I.ok.inj,I.ok.has,I.ok.cab,(λz=>nomatch z),hA.trans I.ok.frames,I.ok.stk,I.ok.exf,I.ok.bs,I.ok.bsz,I.ok.noex,I.ok.exfs,I.ok.funs,I.ok.frf⟩,I.os,I.bare,I.base,I.loc,I.cell,I.free,I.freeC,λq hq=>by
  rw[cx] at hq;rcases dc.mp hq with hq |hq
  ·exact D q hq
  ·exact I.pin q hq,I.hok,I.len⟩
def Inv.unhush(ok:X.Ok)(J:Inv (X.hush A p) pins σ H s):Inv X pins σ H s :=
 ⟨ok,J.os,J.bare,J.base,J.loc,J.cell,J.free,J.freeC,λq D=>J.pin q (by rw[cx];exact cg _ D),J.hok,J.len⟩
structure D8 (P:Program) (w:World) (K:ic) (mg:Str->gx) (base:Heap) (k:Nat) (f:Addr) (fd:FuncData) (ps:gs) (kd:Str->jj):Prop where
 len:ps.length=1
 run:∀(A:Around) (outer:g9) (s:Shared) (H:Hp) (ea C:Addr) (c:Str) (o:Obj) (d:D) (O:Addr->Prop) (Q:VK) (args:Args),bE k { A with handled:=none }->A.handled=↑(.ref ea)->gD P w K mg base A outer s H->BindsTo s fd args (ps.zip [.ref ea]) ->
  s.heap.get? ea=↑o->ll o C->Cl K c C->H ea=none->ea∉eT outer->kd c=↑d->(∀v H',bG H H'->bB K H' (λa=>O a\/H a=none) d v->Q v H')->codeAny (model P w) A (.call (.ref f) args) (CR cD outer P w H s Q E0) s
abbrev k7(P:Program)(w:World)(K:ic)(mg:Str->gx)(base:Heap)(N:gs)(qual:Str)(scope:Scope)(f:Addr)(cdv:Value)(A:Around)(outer:g9)(s:Shared)(H:Hp):Cx :=
 ((cI cD P w K mg base N qual scope f cdv { A with handled:=none } outer s H E0).nox).hush (A.deeper (envOfC qual scope s.heap.objs.size f cdv)) []
def lp(n:Nat)(g:Addr->Str->FS)(c:Str)(d:D):Prop:=∀ea,∃e',g ea c (kr n [.exc ea])=↑(.rt d,e')
variable{g:Addr->Str->FS}{st:Stmt}{N ps:gs}{k:Nat}{kd:Str->jj}{mg:Str->gx}{base:Heap}
theorem xT{qual:Str}{f:Addr}{fd:FuncData}{n:Nat}(F:gN K x qual st f fd)(S:vo N ps (iy st))(R:n=N.length)(L:ps.length=1)(l:∀c d,kd c=↑d->lp n g c d)(Y:∀(cdv:Value) (A:Around) (outer:g9) (s:Shared) (H:Hp) (ea C:Addr) (c:Str) (G:Gd) (H0:Hp),(kd c).isSome=true->Cl K c C->Hd ea C (k7 P w K mg base N qual (iy st) f cdv A outer s H)->fQ (k7 P w K mg base N qual (iy st) f cdv A outer s H) G H0 (o9 st) (g ea c)) :
  D8 P w K mg base (k+1) f fd ps kd:=by
 subst R;refine⟨L,λA outer s H ea C c o d O Q args T X D hb ho hx hc hH m hd hQ=>?_⟩;obtain⟨oc,od,kV,aa,pm,an,cdv,ct,osl,rfl,lk,p⟩:=F.ex;have hl:[V.ref ea].length=ps.length:=L.symm;have M:K.In s.heap:=D.mod.kin.keeps λb o e=>(D.bs b o e).1;have r:s.heap.NoLimit:=D.mod.nolimit.keeps λb o e=>(D.bs b o e).1;have Z:∀y∈ps.zip [Value.ref ea],(iy st).names.lookup y.1=some .local\/((iy st).names.lookup y.1=some .cell/\((cellsFrom (s.heap.objs.size+1) (iy st).names []).lookup y.1).isSome=true):=λ⟨n,v⟩ hy=>by
  rcases S.par n (lm hy).1 with q |q
  ·exact .inl q
  ·exact .inr ⟨q,oj _ _ _ (.inl q)⟩
 refine codeAny_call_function (A:=A) T.depth (M _ _ lk) rfl S.co S.gen rfl (PySem.W.codeRec_of M p) (hb _ _ _ _ ?_);refine wpAny_newFunctionEnv_cells S.kind Z λenv he t x=>?_;subst he;refine⟨r.keeps x.toInCall.keep,codeAny_func ?_⟩;have e1:gD P w K mg base { A with handled:=none } outer s H:=⟨D.frames,D.mod,D.bs,D.bsz,D.funs,D.frf,D.hok,D.bare⟩;have I0:Inv (cI cD P w K mg base N qual (iy st) f cdv { A with handled:=none } outer s H E0) [] (start N [.ref ea]) H t:=B5 S rfl e1 hl (.cons rfl .nil) x;have I:Inv (k7 P w K mg base N qual (iy st) f cdv A outer s H) [] (start N [.ref ea]) H t:=(I0.wish _).hush rfl λq hq=>absurd hq ⋯;have hD:Hd ea C (k7 P w K mg base N qual (iy st) f cdv A outer s H):=⟨X,⟨o,ho,hx⟩,hH,m,by simp[cI]⟩;obtain⟨e',hg⟩:=l c d hd ea;have z:=(Y cdv A outer s H ea C c (gd λa=>O a\/H a=none) H (by rw[hd];rfl) hc hD).out [] t (start N [.ref ea]) H { nx:=λ_ H'=>Q .non H',rt:=Q } I
  ⟨c_,_,_,e',yp (K:=K) (O:=O) (.cons (.exc ea) .nil),hg,λW' U v H' st B rp=>hQ v H' B.stay (rp.mono (λ_ _ h=>h) λa us o h=>⟨o.1,h⟩)⟩
 refine iz z (λfl s' i=>?_) λe s' i=>False.elim i;have j:∀ {U:St} {H':Hp} {v:V} {u:Value},Inv (k7 P w K mg base N qual (iy st) f cdv A outer s H) [] U H' s'->RelV v u->Q v H'->CE outer P w H s Q u s' :=
  λ{U H' v u} J E q=>⟨v,H',J.os,J.bare,J.base,J.hok,E,q⟩
 cases fl with
 |ret u =>
   obtain⟨v,U,H',J,E,q⟩:=i;exact j J E q
 |next =>
   obtain⟨U,H',J,q⟩:=i;exact j (v:=V.non) (u:=Value.none) J rfl q
 |brk =>
   obtain⟨_,_,_,q⟩:=i;exact False.elim q
 |cont =>
   obtain⟨_,_,_,q⟩:=i;exact False.elim q
def r_(P:Program)(w:World)(K:ic)(mg:Str->gx)(base:Heap)(x:Str)(k:Nat)(kd:Str->jj):Prop :=
 ∃f fd ps,D8 P w K mg base k f fd ps kd/\mg x=↑(.ref f)/\PySem.W.keepIn K (.ref f)=true/\Binds K fd ps []/\(x==("__debug__" : Str))=false
def xU(ea:Addr)(c:Str)(kd:Str->jj)(i:Nat):FE:=λe=>match e[i]? with |some ⇑(.exc a)=>if a=ea then(kd c).map λd=>(d,e) else none |_=>none
variable{y:XF}{c:Str}
theorem Lk{y:Str}{p:Pos}(m:X.A.handled=↑(.ref ea))(n:(ea,o)∈X.pn)(t:ll o C)(B:Cl X.K c C)(E:r_ X.prog X.w X.K X.mg X.base x k kd)(J:bE k { X.A with handled:=none })(an:cA Nn Cn X)(L:Gl X x)(Y:Nn[i]?=↑y)(j:starEach [.Name y p1] X.env=(false,eval (.Name y p1) X.env)::starEach [] X.env)(Z:(backTo pos (starEach [] X.env)).any (·.1)=false):aT X G H0 (.Call (.Name x p) [.Name y p1] [] pos) (xU ea c kd i):=⟨λpins s σ H Q I b=>by
 obtain⟨W,env,d,env',ok,q,k⟩:=b;obtain⟨f,fd,ps,F,M,N,O,g⟩:=E;unfold xU at q;split at q;case h_2=>cases q
 rename_i a P;split at q;case isFalse=>cases q
 rename_i R;subst R;cases e2:kd c with
 |none=>rw[e2] at q;cases q
 |some d' =>
   rw[e2] at q;cases q;obtain⟨v',S,T⟩:=ok.slot i _ P;obtain rfl:=bB.exc_ T;refine i4 (zk I L M ?_ g);refine j5 (h₀:=X.base) I.ok.mod.kin N (bI ((oy (an.a Y).pe qt j) pos pins s σ H (λvs H1=>vs=[V.ref a]/\H1=H) I ⟨_,S,rfl,rfl⟩) λus l b=>?_) j Z;obtain⟨vs,H1,D,r,q1,q2⟩:=b;refine⟨D.kIn,?_⟩;subst q1 q2;obtain⟨u,rfl,hu⟩:=y9 r;cases (show u=Value.ref a from hu);obtain⟨g1,g2,g3,g4,_⟩:=D.pin (a,o) (d8 _ n);have hl:([Value.ref a]++[]).length=ps.length:=by rw[F.len];rfl
   have hz:=O l [Value.ref a] D.kIn hl;refine nk (jp (F.run X.A X.stack l H1 a C c o _ (Ow G W) Q ⟨[.ref a],[]⟩ J m D.env0 hz g1 t B g2 (λz=>?_) e2 λv H2 sm r2=>?_) λr s' U=>?_)
   ·rcases cf.mp (D.stkSub a z) with z |z
    ·exact g3 z
    ·exact g4 z
   ·refine k W v H2 (Step.same sm) (ok.same sm) (r2.mono (λ_ _ h=>h) λa us o h=>⟨?_,h⟩)
    rcases o with o |o
    ·exact o
    ·exact⟨ok.good a (ok.stay.free o),λz=>by obtain⟨_,us,q⟩:=ok.wl a z;rw[o] at q;cases q⟩
   ·cases r with
    |error e=>exact False.elim U |ok fl =>
      cases fl with
      |ret u=>exact D.after U |next=>exact False.elim U |brk=>exact False.elim U |cont=>exact False.elim U⟩
variable{M:Model}
def Ll(I:Inv X pins σ H s)(u:X.N.Nodup)(hi:X.N[i]?=↑x)(w:X.env.kindOf x=some .local)(h:∀s',Inv X pins (σ.set i none) H s'->Q () s'):wpAny M A (do bindName X.env x .none;unbindBehindTheSuite X.env x pos) Q E s:=by
 obtain⟨m,B,C⟩:=id I.loc;have V:(X.env.scope.kind==.class || (X.env.scope.kind==.module && X.env.locals != X.env.globals))=false:=by rw[I.ok.kind];rfl
 have Y:i<σ.length:=by rw[I.len];exact(am.mp hi).1
 refine wpAny_nameGoes_keeps w B V λh' v f D=>?_;refine h _ ⟨I.ok,I.os,I.bare,⟨λb o e n g Z=>?_,λb o e n g Z=>?_,I.base.free,λb o e Z=>?_,I.base.tups,I.base.frzs,I.base.tbls⟩,⟨_,f,λj y F U a G=>?_⟩,λy c e=>?_,I.free,I.freeC,λp J=>?_,λb K e=>?_,by simpa using I.len⟩
 ·exact(D.2 b (ce (bz (bw e) I.ok.above))).trans (I.base.keep b o e n g Z)
 ·obtain⟨sl,U⟩:=I.base.slot b o e n g Z
  exact⟨sl,(D.2 b (ce (bz (bw e) I.ok.above))).trans U⟩
 ·obtain⟨o',U⟩:=I.base.there b o e Z
  exact⟨o',(D.2 b (ce (bz (bw e) I.ok.above))).trans U⟩
 ·by_cases l:j=i
  ·subst l
   rw[fj Y] at a;cases a
  ·rw[dy (Ne.symm l)] at a
   obtain⟨L,O,q⟩:=C j y F U a G;refine⟨L,O,?_⟩;rcases q with⟨k,e⟩ | ⟨k,c,e,z⟩
   ·refine .inl ⟨k,?_⟩
    have:y≠x:=λe=>l (uG u U (e ▸ hi));simp[this,e]
   ·exact .inr ⟨k,c,e,z.sameBut D (I.cne y c e)⟩
 ·obtain⟨r,z⟩:=I.cell y c e
  exact⟨r,z.sameBut D (I.cne y c e)⟩
 ·obtain⟨e,n,t,P,d⟩:=I.pin p J
  exact⟨(D.2 p.1 t).trans e,n,t,P,d⟩
 ·refine(I.hok b K e).stay (λc r hc q=>(D.2 c ?_).trans q) (λ_ q=>q) λ_ _ q=>q
  rintro rfl;rcases hc with hc |hc
  ·rw[<-hc,I.free] at e;cases e
  ·rw[I.free] at hc;cases hc
def bR.here{a:Addr}{o:HO}(x:bR P w H h a o):∃u,h.get? a=↑u:=by
 induction o with
 |lst xs=>obtain⟨_,_,_,_,e⟩:=x;exact⟨_,e⟩ |tup xs=>obtain⟨_,_,_,o,e,_⟩:=x;exact⟨_,e⟩ |dK kvs=>obtain⟨_,_,_,_,o,_,_,e,_⟩:=x;exact⟨_,e⟩ |dT kvs=>obtain⟨_,_,_,_,o,_,_,e,_⟩:=x;exact⟨_,e⟩ |set S n=>obtain⟨o,_,_,_,e,_⟩:=x;exact⟨_,e⟩ |ins C dx fs=>exact⟨_,x.2.2.2.1⟩ |own _=>exact x |xd fs=>obtain⟨_,⟨_,_,_,e,_⟩,_⟩:=x;exact⟨_,e⟩ |met f y=>exact⟨_,x⟩ |rng lo hi=>obtain⟨_,_,_,e⟩:=x;exact⟨_,e⟩ |frz o u _=>exact⟨_,x.1⟩ |tbl ps=>exact⟨_,x⟩ |ext φ=>exact x.2.1
variable{W:Addr->Prop}{env:aQ}
def Ok.unset(ok:Ok K G H0 W env σ H)(i:Nat):Ok K G H0 W (env.set i none) (σ.set i none) H:=by
 have gt:∀ {α:Type} {l:List (Option α)} {j:Nat} {a:α},(l.set i none)[j]?=↑↑a->i≠j/\l[j]?=↑↑a:=λ{α l j a} e=>by
  by_cases h:i=j
  ·subst h
   rw[jo] at e;simp at e
  ·rw[dy h] at e
   exact⟨h,e⟩
 refine⟨ok.stay,ok.good,ok.wl,λj s e=>?_,λj I s s' v U a D V Y Z=>ok.uniq j I s s' v U a (gt D).2 (gt V).2 (gt Y).2 (gt Z).2,by rw[d7,d7];exact ok.len⟩;obtain⟨h,e⟩:=gt e;obtain⟨v,D,h1⟩:=ok.slot j s e;exact⟨v,by rw[dy h];exact D,h1⟩
abbrev Cx.tr(X:Cx)(E:Value->Shared->Prop)(pp:ii):Cx:={ X with xe:=E,pn:=pp++X.pn }
def Inv.tr(I:Inv X pins σ H s):Inv (X.tr E pins) [] σ H s :=
 ⟨⟨I.ok.mod,I.ok.kind,I.ok.glob,I.ok.blt,I.ok.above,I.ok.inj,I.ok.has,I.ok.cab,I.ok.hd,I.ok.frames,I.ok.stk,I.ok.exf,I.ok.bs,I.ok.bsz,I.ok.noex,I.ok.exfs,I.ok.funs,I.ok.frf⟩,I.os,I.bare,I.base,I.loc,I.cell,I.free,I.freeC,λq D=>I.pin q (by
  rw[c8] at D;exact dc.mpr (dc.mp D).symm),I.hok,I.len⟩
variable{pp:ii}
def Inv.untr(ok:X.Ok)(I:Inv (X.tr E pins) pp σ H s):Inv X pins σ H s :=
 ⟨ok,I.os,I.bare,I.base,I.loc,I.cell,I.free,I.freeC,λq D=>I.pin q (d8 _ (dc.mpr (dc.mp D).symm)),I.hok,I.len⟩
variable{cs:gs}
def cA.tr(h:cA N cs X):cA N cs (X.tr E pp):=⟨h.n,λi x e=>let z:=h.get i x e;⟨z.n,z.v,z.d,z.c⟩,h.ck⟩
def dW.tr(h:dW N X):dW N (X.tr E pp):=⟨λi x e=>let z:=h.to i x e;⟨z.nd,z.n,z.l,z.f⟩⟩
def cA.hush(h:cA N cs X):cA N cs (X.hush A pp):=⟨h.n,λi x e=>let z:=h.get i x e;⟨z.n,z.v,z.d,z.c⟩,h.ck⟩
def dW.hush(h:dW N X):dW N (X.hush A pp):=⟨λi x e=>let z:=h.to i x e;⟨z.nd,z.n,z.l,z.f⟩⟩
def iV(u:FS)(i j:Nat)(kd:Str->jj):FS:=λe=>(u e).bind λr=>match r.1 with | .xc c=>(kd c).map λd=>(.nx,((r.2.set i none).set j ⇑d).set i none) |_=>↑r
def xV{α:Type}(l:List (Option α))(i j:Nat)(a b:Option α):((l.set i a).set j b).set i none=((l.set i none).set j b).set i none:=by
 by_cases h:i=j
 ·subst h;simp[List.set_set]
 ·rw[List.set_comm _ _ h,List.set_set,List.set_comm _ _ h,List.set_set]
variable{H':Hp}{s':Shared}
def iB.obj{e:Addr}(V:X.stack=X.env::X.outer)(Y:X.env.frame=↑X.env.locals)(f:iB X.prog X.w X.stack H s C e H' s'):∃o,s'.heap.get? e=↑o/\ll o C/\H' e=none/\e≠X.env.locals/\e∉X.fs/\∀v,o.data≠.cell v:=by
 obtain⟨B,x,d,Z,un,os,g⟩:=f;obtain⟨a,vs,T,h,ts,U,b,gd,I,i,c,_⟩:=x.tr;have D:e∉eT X.stack:=λz=>by
  obtain⟨_,j,y,n⟩:=x.fr.mem z;rw[U] at y;cases y;exact n vs I
 rw[V] at D;have D:e∉X.env.locals::X.fs:=by unfold eT at D;rw[lu,Y] at D;exact D
 refine⟨a,U,⟨⟨vs,b,I,c⟩,gd⟩,?_,λz=>D (z ▸ bi),λz=>D (ay _ z),λv z=>by rw[I] at z;cases z⟩;cases q:H' e with
 |none=>rfl |some o =>
   obtain⟨u,z⟩:=(Z e o q).here;rw[x.new] at z;cases z
def iB.flight{e:Addr}(I:Inv X pins σ H s)(f:iB X.prog X.w X.stack H s C e H' s')(h:∀h2,iB X.prog X.w X.stack H s C e H' { s' with heap:=h2 }->Q () { s' with heap:=h2 }):wpAny M A (setFlight (.ref e) none) Q E s':=by
 obtain⟨B,x,Y,Z,un,os,a⟩:=f;refine wE x λh2 x2 c d=>h h2 ⟨B,x2,Y,Z,⟨λb o q n D _=>x2.stay b o (Y b o q n D),λb o q n D U=>?_,un.free,λb o q U=>?_,un.tups,un.frzs,un.tbls⟩,os,a⟩
 ·obtain⟨sl,z⟩:=un.slot b o q n D U
  obtain⟨_,j,y,g⟩:=I.stack.mem D;rw[q] at y;cases y;obtain⟨V,i⟩:=c b _ z g;exact⟨V,i⟩
 ·obtain⟨o',z⟩:=un.there b o q U
  exact d b o' z
variable{jr:Nat}
def Lm{body:List Stmt}{u:FS}{j:Nat}{R y z:Str}{RA:Addr}{S h O T p7:Pos}(hR:X.mg R=↑(.ref RA))(m:∀c C,(kd c).isSome=true->Cl X.K c C->PySem.W.exmOne X.K (.ref C) (.ref RA)=↑true)(kc:r_ X.prog X.w X.K X.mg X.base x k kd)(rm:bE jr X.A)(an:cA Nn Cn X)(U:dW Nn X)(hb:∀E pp,cA Nn Cn (X.tr E pp)->dW Nn (X.tr E pp)->fQ (X.tr E pp) G H0 body u)(B:k<=jr:=by decide)(aa:Gl X R:=by walk_at "g")(ab:Gl X x:=by walk_at "g")(hi:‹Nn[i]?=↑y›)(hj:‹Nn[j]?=↑z›)(hl:X.env.kindOf y=some .local:=by kernel_rfl)(hX:‹X.stack=X.env::X.outer›)(hf:‹X.env.frame=↑X.env.locals›)(ac:(R==("__debug__" : Str))=false:=by decide)(he:‹starEach [.Name y h] X.env=(false,eval (.Name y h) X.env)::starEach [] X.env›)(ag:‹(backTo O (starEach [] X.env)).any (·.1)=false›)(al:‹swapsWith (.Call (.Name x S) [.Name y h] [] O) ↑(.Name z p2) T.line X.env=pure false›) :
  eZ X G H0 (.Try body [.ExceptHandler ↑(.Name R p1) ↑y [.Assign [.Name z p2] (.Call (.Name x S) [.Name y h] [] O) T] p7] [] [] pos) (iV u i j kd):=⟨λpins s σ H Dn I zq=>by
 obtain⟨W,env,fl,env',ok,q,k⟩:=zq;unfold iV at q;cases e1:u env with
 |none=>rw[e1] at q;cases q
 |some r =>
   obtain⟨F,env1⟩:=r;rw[e1,ae] at q;refine wpAny_Try_except ?_;refine iz ((hb _ pins an.tr U.tr).out [] s σ H Dn I.tr ⟨W,env,F,env1,ok,e1,?_⟩) (λf s1 h1=>?_) (λe s1 h1=>h1)
   ·cases F with
    |xc c=>?_ |nx=>cases q;exact k
    |bk=>cases q;exact k
    |ct=>cases q;exact k
    |rt d=>cases q;exact k
    |rf d=>cases q;exact k
    |r2 d=>cases q;exact k
    |ra d d'=>cases q;exact k
    cases e2:kd c with
    |none=>simp only[e2,fx] at q;cases q
    |some d =>
      simp only[e2,aj] at q;cases q;intro W' D H' C hc st L ap e s' xs;refine xs.come hX hf λh2 s1 H1 I1 f=>?_;have J:Inv X pins D H' { s' with heap:=h2 }:=(f.inv I1).untr I.ok;obtain⟨o,P,g2,_⟩:=iB.obj (X:=X) hX hf f;refine wpAny_handleBy_cons (codeAny_handlers_test ?_) (λz=>nomatch z);refine zk (J.hush (A:=X.A.mark ↑(.ref e)) (p:=[]) rfl ⋯) aa hR ?_ ac;refine(exm_one (M:=model X.prog X.w) J.kIn (g2.inst P).type (m c C (by rw[e2];rfl) hc)).here ?_;refine codeAny_handlers_suite_as ?_;refine f.flight I1 λh3 f3=>?_;have J3:Inv X pins D H' { s' with heap:=h3 }:=(f3.inv I1).untr I.ok;obtain⟨N,P,g2,g3,g4,g5,g6⟩:=iB.obj (X:=X) hX hf f3;have ar:i<env1.length:=by
       rw[L.len,J3.len];exact(am.mp (U.t hi).n).1
      refine uH (X:=X.hush (X.A.mark ↑(.ref e)) []) (J3.hush rfl ⋯) (U.t hi).nd (U.t hi).n (U.t hi).l (v:=.ref e) rfl (λs4 I4 zq=>?_) (U.t hi).f;obtain⟨a,sb,ha⟩:=zq;have ge:s4.heap.get? e=↑N:=(sb.2 e λz=>by
       rcases ha with ha |ha
       ·exact g4 (z.trans ha)
       ·obtain⟨v,oc,h1,h2⟩:=J3.cell _ _ ha
        rw[<-z] at h1;cases P.symm.trans h1;exact g6 v h2).trans P
      have I5:Inv ((X.hush (X.A.mark ↑(.ref e)) [(e,N)]).nox) pins (D.set i ↑(.ref e)) H' s4:=((I4.unhush I.ok).hush (A:=X.A.mark ↑(.ref e)) (p:=[(e,N)]) rfl (λq hq=>by cases eh.mp hq;exact⟨ge,g3,g4,g5,g6⟩)).wish _;have hs:=(e7 (ib (X:=(X.hush (X.A.mark ↑(.ref e)) [(e,N)]).nox) (G:=G) (H0:=H0) (pos:=T) (p':=p2) U.hush.nox (Lk (C:=C) (c:=c) (o:=N) (p:=S) (p1:=h) (pos:=O) rfl (d8 _ bi) g2 hc kc ⟨rfl,(rm.mono B).dp,(rm.mono B).un⟩ an.hush.nox ab hi he ag) hj al)).out pins s4 _ H' { nx:=λV Q=>∃b,Step W' H' b Q/\Ok X.K G H0 b ((env1.set i ⇑(.exc e)).set j ⇑d) V Q,rt:=λ_ _=>False } I5 ⟨W',env1.set i ⇑(.exc e),.nx,_,L.set (.exc e),by
       unfold aG xU;rw[fj ar];dsimp only;rw[ax rfl,e2];rfl,λb V Q Y Z=>⟨b,Y,Z⟩⟩
      refine iz hs (λf5 s5 g=>?_) (λx s5 g=>False.elim g);cases f5 with
      |next =>
        obtain⟨V,Q,J5,b,Y,Z⟩:=g;refine Ll (J5.unwish.unhush I.ok) (U.t hi).nd (U.t hi).n hl λs6 J7=>⟨_,_,J7,k b _ _ (st.trans Y) ?_⟩;rw[<-xV];exact Z.unset i
      |brk=>obtain⟨_,_,_,z⟩:=g;exact z.elim |cont=>obtain⟨_,_,_,z⟩:=g;exact z.elim |ret u=>obtain⟨_,_,_,_,_,z⟩:=g;exact z.elim
   ·cases f with
    |next =>
      obtain⟨D,H',J,q⟩:=h1;exact mj ⟨D,H',J.untr I.ok,q⟩
    |brk=>obtain⟨D,H',J,q⟩:=h1;exact⟨D,H',J.untr I.ok,q⟩ |cont=>obtain⟨D,H',J,q⟩:=h1;exact⟨D,H',J.untr I.ok,q⟩ |ret u=>obtain⟨v,D,H',J,r,q⟩:=h1;exact⟨v,D,H',J.untr I.ok,r,q⟩⟩
def pz:gs:=["UnknownStack", "EmptyStack", "UnknownPlace", "BadHours", "BadLoss", "BadCount", "HouseFull", "DeedsFull", "NothingWaits", "NothingDone", "ShortOrder", "TooManyOrders", "NotGone"]
def ut:gs:=["unknown stack", "empty stack", "unknown place", "bad hours", "bad loss", "bad count", "house full", "deeds full", "nothing waits", "nothing done", "short order", "too many orders", "not gone"]
def xW(c:Str):h7:=(pz.zip ut).lookup c
def iW(c:Str):jj:=(xW c).map λw=>.tup [.str "refused",.str w]
def xX(K:ic)(C:Addr):Bool:=findIn K (.ref C) "__getattribute__"==↑↑(.builtin "BaseException.__getattribute__") && findIn K (.ref C) "__getattr__"==↑none && (match findObj K C none "__class__" with |some (.bind (.builtin g) (.builtin a))=>g=="getset_descriptor.__get__" && a=="object.__class__" |_=>false) && mroIn K C (.type "object")==↑true && mroIn K C (.type "BaseException")==↑true
def iX(K:ic)(n:Str)(p:Addr->Bool):Bool:=match nsIn K mainGlobals n with |some ↑(.ref R)=>p R |_=>false
def D9(K:ic):Bool:=pz.all λc=>iX K c λC=>xX K C && kitOne K (.ref C) (.type "ValueError")==↑true && iX K "RotError" (λR=>exmOne K (.ref C) (.ref R)==↑true) && pz.all λn=>iX K n λR=>kitOne K (.ref C) (.ref R)==↑(c==n)
def sf{n:Str}{p:Addr->Bool}(h:iX K n p=true):∃R,nsIn K mainGlobals n=↑↑(.ref R)/\p R=true:=by
 unfold iX at h;split at h
 ·exact⟨_,by assumption,h⟩
 ·cases h
def Ln(h:xX K C=true):gT K C:=by
 unfold xX at h;simp only[fq,l8] at h;obtain⟨⟨⟨⟨h1,h2⟩,D⟩,I⟩,U⟩:=h;refine⟨h1,h2,?_,I,U⟩;split at D
 ·rename_i g a e
  rw[fq,l8,l8] at D;rw[e,D.1,D.2]
 ·cases D
def DA(h:(iW c).isSome=true):c∈pz:=by
 unfold iW at h;rw[Option.isSome_map] at h;obtain⟨w,e⟩:=nh.mp h;exact(lm (fz e)).1
structure eB (K:ic) (mg:Str->gx):Prop where
 b:D9 K=true
 m:∀n∈("RotError" : Str)::pz,∀R,nsIn K mainGlobals n=↑↑(.ref R)->mg n=↑(.ref R)
def kf_mk(X:K.In h)(G:h.Ns mainGlobals mg)(b:D9 K=true):eB K mg:=⟨b,λ_ _ _ e=>mg_of X G e⟩
def eB.all(k:eB K mg)(V:(iW c).isSome=true)(cl:Cl K c C):gT K C/\kitOne K (.ref C) (.type "ValueError")=↑true/\(∃R,mg "RotError" = ↑(.ref R)/\exmOne K (.ref C) (.ref R)=↑true)/\∀n∈pz,∃R,mg n=↑(.ref R)/\kitOne K (.ref C) (.ref R)=↑(c==n):=by
 have h:=gl.mp k.b c (DA V);obtain⟨a,e,h⟩:=sf h;cases e.symm.trans cl;simp only[fq,l8] at h;obtain⟨⟨⟨h1,h2⟩,D⟩,I⟩:=h;obtain⟨R,Y,D⟩:=sf D;refine⟨Ln h1,h2,⟨R,k.m _ bi R Y,l8.mp D⟩,λn U=>?_⟩;obtain⟨R,Z,I⟩:=sf (gl.mp I n U);exact⟨R,k.m _ (ay _ U) R Z,l8.mp I⟩
def eB.rot(k:eB K mg):∃R,mg "RotError" = ↑(.ref R)/\∀c C,(iW c).isSome=true->Cl K c C->exmOne K (.ref C) (.ref R)=↑true:=by
 have h:=gl.mp k.b "UnknownStack" (by decide);obtain⟨V,e,_⟩:=sf h;obtain⟨_,_,⟨R,D,_⟩,_⟩:=k.all (c:="UnknownStack") (by decide) e;refine⟨R,D,λc C I cl=>?_⟩;obtain⟨_,_,⟨Y,U,z⟩,_⟩:=k.all I cl;cases D.symm.trans U;exact z
def ue(Y:eB X.K X.mg)(Z:(iW c).isSome=true)(cl:Cl X.K c C)(hd:Hd ea C X)(an:cA Nn Cn X)(a:cn∈pz:=by decide)(b:Gl X cn:=by walk_at "g")(D:(cn==("__debug__" : Str))=false:=by decide)(d:Bn X "isinstance":=by walk_at "b")(I:‹Nn[i]?=↑x›)(e:‹starEach [.Name x p1,.Name cn p2] X.env=(false,eval (.Name x p1) X.env)::starEach [.Name cn p2] X.env›)(U:‹starEach [.Name cn p2] X.env=(false,eval (.Name cn p2) X.env)::starEach [] X.env›)(V:‹(backTo pos (starEach [.Name cn p2] X.env)).any (·.1)=false›) :
  aT X G H0 (.Call (.Name "isinstance" p') [.Name x p1,.Name cn p2] [] pos) (cZ ea i (c==cn)):=by
 obtain⟨f,_,_,h⟩:=Y.all Z cl;obtain⟨R,g,j⟩:=h cn a;exact Le hd f g j an b D d I e U V
def Lo(V:eB X.K X.mg)(Y:(iW c).isSome=true)(cl:Cl X.K c C)(hd:Hd ea C X)(an:cA Nn Cn X)(Z:Bn X "ValueError":=by walk_at "b")(a:Bn X "isinstance":=by walk_at "b")(D:‹Nn[i]?=↑x›)(b:‹starEach [.Name x p1,.Name "ValueError" p2] X.env=(false,eval (.Name x p1) X.env)::starEach [.Name "ValueError" p2] X.env›)(I:‹starEach [.Name "ValueError" p2] X.env=(false,eval (.Name "ValueError" p2) X.env)::starEach [] X.env›)(U:‹(backTo pos (starEach [.Name "ValueError" p2] X.env)).any (·.1)=false›) :
  aT X G H0 (.Call (.Name "isinstance" p') [.Name x p1,.Name "ValueError" p2] [] pos) (cZ ea i true):=Lg hd (V.all Y cl).1 (V.all Y cl).2.1 an Z a D b I U
theorem Lp(T:cH K mg st x ps)(N:gs)(D:∀c d,kd c=↑d->lp N.length g c d)(I:∀ {f:Addr} {cdv:Value} {A:Around} {outer:g9} {s:Shared} {H:Hp} {ea C:Addr} {c:Str} {G:Gd} {H0:Hp},(kd c).isSome=true->Cl K c C->Hd ea C (k7 P w K mg base N x (iy st) f cdv A outer s H)->cA N (iG N (iy st)) (k7 P w K mg base N x (iy st) f cdv A outer s H)->dW N (k7 P w K mg base N x (iy st) f cdv A outer s H) ->
   fQ (k7 P w K mg base N x (iy st) f cdv A outer s H) G H0 (o9 st) (g ea c))(h:iH N ps (iy st)=true:=by decide +kernel)(U:hY x=true:=by decide +kernel)(V:‹ps.length=1›):r_ P w K mg base x (k+1) kd:=by
 obtain⟨f,fd,F,b,m⟩:=T;exact⟨f,fd,ps,xT F (uu h).1 rfl V D λcdv A outer s H ea C c G H0 Y Z a=>I Y Z a (xm h).nox.hush (xl h).nox.hush,m,F.kp,b,(vj U).1⟩
def xY(ea:Addr)(c:Str):FS:=aE (aG 1 (aL (ij (bc (cZ ea 0 (c=="UnknownStack")) (bc (cZ ea 0 (c=="EmptyStack")) aC))))) (aE (aG 1 (aL (cW (aB 1) (aL (ij (bc (cZ ea 0 (c=="UnknownPlace")) (bc (cZ ea 0 (c=="BadHours")) aC))))))) (aE (aG 1 (aL (cW (aB 1) (aL (ij (bc (cZ ea 0 (c=="BadLoss")) (bc (cZ ea 0 (c=="BadCount")) aC))))))) (aE (aG 1 (aL (cW (aB 1) (aL (ij (bc (cZ ea 0 (c=="HouseFull")) (bc (cZ ea 0 (c=="DeedsFull")) aC))))))) (aE (aG 1 (aL (cW (aB 1) (aL (ij (bc (cZ ea 0 (c=="NothingWaits")) (bc (cZ ea 0 (c=="NothingDone")) aC))))))) (aE (aG 1 (aL (cW (aB 1) (aL (ij (bc (cZ ea 0 (c=="ShortOrder")) (bc (cZ ea 0 (c=="TooManyOrders")) aC))))))) (aE (aG 1 (aL (cW (aB 1) (aL (ij (bc (cZ ea 0 (c=="NotGone")) aC)))))) (aE (aG 2 (aL (ij (bc (fC (.str "unknown stack")) (bc (fC (.str "empty stack")) (bc (fC (.str "unknown place")) (bc (fC (.str "bad hours")) (bc (fC (.str "bad loss")) (bc (fC (.str "bad count")) aC))))))))) (aE (aG 2 (aL (cW (aB 2) (aL (ij (bc (fC (.str "house full")) (bc (fC (.str "deeds full")) (bc (fC (.str "nothing waits")) (bc (fC (.str "nothing done")) (bc (fC (.str "short order")) aC)))))))))) (aE (aG 2 (aL (cW (aB 2) (aL (ij (bc (fC (.str "too many orders")) (bc (fC (.str "not gone")) aC))))))) (aE (aG 3 (aL (j7 (gq eV (bc (fC ↥13) aC)) [2,1,0] (dR (aJ (aH 2 (aB 0))) (aJ (cZ ea 3 true))) (aH 1 (aB 0))))) (aM (e9 iU (bc (aL (cW (aL (ij (bc (fC (.str "refused")) aC))) (aB 3))) aC)))))))))))))
def Lq(X:Cx)(G:Gd)(H0:Hp)(is:g7)(F:FA):TA:=λσ H Q=>∃W env ds env',Ok X.K G H0 W env σ H/\F env=↑(ds,env')/\fF env' is /\
 ∀W' us ws H',Step W H W' H'->Ok X.K G H0 W' env' σ H'->us.length=is.length->(∀(j i:Nat),is[j]?=↑i->∃u,us[j]?=↑u/\σ[i]?=↑↑u)->aI X.K H' (Ow G W') ds ws->Q (ws++us) H'
structure Ou (X:Cx) (G:Gd) (H0:Hp) (is:g7) (es:h6) (F:FA):Prop where
 out:PA X es (Lq X G H0 is F)
variable{es:h6}
def xZ{k1}(h:mB X G H0 es y):JX X G H0 (.Tuple es k1 pos) y:=⟨(Bz h.out).imp λ_ _ _ z=>z⟩
def si{T:String}(ty:Ty x T)(c:JX X G H0 a y)(Y:Bn X "isinstance":=by walk_at "b")(D:Gl X x:=by walk_at "g")(I:X.mg x=none:=by assumption)(Z:‹starEach [a,.Name x p1] X.env=(false,eval a X.env)::starEach [.Name x p1] X.env›)(U:‹starEach [.Name x p1] X.env=(false,eval (.Name x p1) X.env)::starEach [] X.env›)(V:‹(backTo pos (starEach [.Name x p1] X.env)).any (·.1)=false›) :
  JX X G H0 (.Call (.Name "isinstance" p') [a,.Name x p1] [] pos) y :=
 ⟨(lL Cb Y.g Y.m w6 (oy c.out (oy (uK (v:=.ty T) D I ty.b rfl ty.n ty.d) qt U) Z) (by decide) (by decide) Z V).imp λ_ _ _ z=>z⟩
def x_{sp:Sp}(c:b_ X.prog X.w X.K X.mg X.base cD x k sp)(V:bE jr X.A)(Y:mB X G H0 (e::es) y)(D:k<=jr:=by decide)(Z:Gl X x:=by walk_at "g")(a:‹starEach (e::es) X.env=(false,eval e X.env)::starEach es X.env›)(I:‹(backTo pos (starEach es X.env)).any (·.1)=false›) :
  JX X G H0 (.Call (.Name x p') (e::es) [] pos) y:=let ⟨_,_,_,b,d,f,g,U⟩:=c;⟨(qL b (V.mono D) Z d f g .nil qO Y.out U a I).imp λ_ _ _ z=>z⟩
def Lr:PE X e (λ_ _ _=>False):=λpins s σ H Q I h=>h.elim
section
variable {X:Cx} {G:Gd} {H0:Hp} {a b e:Expr} {es:h6} {x:Str} {pos p' p1 apos:Pos} {i k:Nat} {y:XF} {tg:Expr}
structure JI (X:Cx) (G:Gd) (H0:Hp) (tg e:Expr) (x:XF):Prop where
 out:PI X tg e (λσ H _=>jD X G H0 x σ H)
def Ls(h:JX X G H0 a y):JI X G H0 tg a y:=⟨(uW h.out).imp λ_ _ _ z=>z⟩
def Lu{k:Nat}(I:mB X G H0 [a,b] y)(U:Bn X "zip":=by walk_at "b")(V:‹starEach [a,b] X.env=[(false,eval a X.env),(false,eval b X.env)]›)(D:‹starEach [b] X.env=[(false,eval b X.env)]›) :
  JI X G H0 (.Tuple es k p1) (.Call (.Name "zip" p') [a,b] [] pos) y:=⟨(C0 U I.out V D).imp λ_ _ _ z=>z⟩
def DC{body:List Stmt}(hi:JI X G H0 tg a y)(D:PassesOwn (model X.prog X.w) X.A X.env X.xe:=by passes_own)(I:‹X.calm=true›)(U:∀x,foldedSetIterable a X.env x=pure x:=by intro _;rfl):oJ X G H0 (.For tg a body [] pos) y :=
 ⟨(Bh (g:=λ_ _ _ _=>False) (tb:=λ_ _ _=>False) D I hi.out (λ_ _ _ _ _ _ _ _ _ h=>h.elim) (λ_ _ _ _ _ _ h=>h.elim) U).imp λ_ _ _ z=>z⟩
def sr(mm:ka->i0->jj)(κ:AK)(g:FG)(i:Nat):FE:=λe=>(g e).bind λr=>match r.2[i]? with
 |some ⇑d=>if r.1.1=κ then(mm [r.1] [d]).map λq=>(q,r.2) else none
 |_=>none
def oU(xx:ka->i0->h7)(κ:AK)(g:FG)(i:Nat):XF:=λe=>(g e).bind λr=>match r.2[i]? with
 |some ⇑d=>if r.1.1=κ then(xx [r.1] [d]).map λq=>(q,r.2) else none
 |_=>none
variable {Nn Cn:gs} {jr:Nat} {m cn:Str} {fs:gs} {pl:Sem Bool} {mm:ka->i0->jj} {xx:ka->i0->h7} {g:FG} {o:Expr}
def Lv(e:oN X G H0 o g)(c:fH X.prog X.w X.K X.mg X.base cn m k (fE X.K mm xx))(h:bE jr X.A)(an:cA Nn Cn X)(V:k<=jr:=by decide)(Y:‹Nn[i]?=↑x›)(l:m∉fs:=by decide +kernel)(n:eval (.Call (.Attribute o m apos) [.Name x p1] [] pos) X.env=(do
   let ov <-eval o X.env
   standAt apos.atName
   let (f,first) <-holding [ov] (getMethod ov m pl)
   callWith pos f first (backTo pos (starEach [.Name x p1] X.env)) (backToKw pos (keywordEach [] X.env))):=by rfl)(I:‹starEach [.Name x p1] X.env=(false,eval (.Name x p1) X.env)::starEach [] X.env›) :
  aT X G H0 (.Call (.Attribute o m apos) [.Name x p1] [] pos) (sr mm (.ins false cn fs) g i):=let ⟨_,_,_,_,c,Z,s,t,y⟩:=c;⟨(rO e.out c Z s (h.mono V) t (oy ((an.a Y).pe) qt I) I rfl n).imp λσ H Q z=>by
   obtain⟨W,env,d,env',ok,q,kk⟩:=z;unfold sr at q;obtain⟨⟨⟨κ,ps⟩,env1⟩,B,q⟩:=cr.mp q;dsimp only at q;split at q;case h_2=>cases q
   rename_i C E;split at q;case isFalse=>cases q
   rename_i U;subst U;obtain⟨T,F,q⟩:=fb.mp q;cases q;refine⟨W,env,_,_,ok,B,λW1 p H1 J D L ha=>?_⟩;obtain⟨p',as,us,M,hW,nd,hl,U,N⟩:=L;cases M;obtain⟨C',dx,O,P,z3⟩:=id U;cases Cl.inj y O;obtain⟨v,R,r⟩:=D.slot i _ E;refine⟨_,dx,_,rfl,P,rR l,v,R,?_⟩;refine⟨Ow G W1,[(.ins false cn fs,ps)],[.ref p],[C],[v],rfl,⟨rfl,λj a u b f2=>?_⟩,.cons r .nil,.inl ⟨_,F,λw H' sm S=>kk W1 w H' (J.trans (Step.same sm)) (D.same sm) (D.newRep S)⟩⟩;cases j with
   |zero=>cases b;cases f2;exact⟨p,us,rfl,U,N.ro⟩
   |succ j=>cases b⟩
def Lw(e:oN X G H0 o g)(c:fH X.prog X.w X.K X.mg X.base cn m k (fE X.K mm xx))(h:bE jr X.A)(an:cA Nn Cn X)(Y:k<=jr:=by decide)(Z:‹Nn[i]?=↑x›)(l:m∉fs:=by decide +kernel)(n:eval (.Call (.Attribute o m apos) [.Name x p1] [] pos) X.env=(do
   let ov <-eval o X.env
   standAt apos.atName
   let (f,first) <-holding [ov] (getMethod ov m pl)
   callWith pos f first (backTo pos (starEach [.Name x p1] X.env)) (backToKw pos (keywordEach [] X.env))):=by rfl)(D:‹starEach [.Name x p1] X.env=(false,eval (.Name x p1) X.env)::starEach [] X.env›) :
  JX X G H0 (.Call (.Attribute o m apos) [.Name x p1] [] pos) (oU xx (.ins false cn fs) g i):=let ⟨_,_,_,_,c,b,s,t,y⟩:=c;⟨(rO e.out c b s (h.mono Y) t (oy ((an.a Z).pe) qt D) D rfl n).imp λσ H Q z=>by
   obtain⟨W,env,cc,env',ok,q,kk⟩:=z;unfold oU at q;obtain⟨⟨⟨κ,ps⟩,env1⟩,B,q⟩:=cr.mp q;dsimp only at q;split at q;case h_2=>cases q
   rename_i E F;split at q;case isFalse=>cases q
   rename_i V;subst V;obtain⟨d2,J,q⟩:=fb.mp q;cases q;refine⟨W,env,_,_,ok,B,λW1 p H1 L U M ha=>?_⟩;obtain⟨p',as,us,N,hW,nd,hl,V,O⟩:=M;cases N;obtain⟨P,dx,R,S,z3⟩:=id V;cases Cl.inj y R;obtain⟨v,T,r⟩:=U.slot i _ F;refine⟨_,dx,_,rfl,S,rR l,v,T,?_⟩;refine⟨Ow G W1,[(.ins false cn fs,ps)],[.ref p],[E],[v],rfl,⟨rfl,λj a u d f2=>?_⟩,.cons r .nil,.inr ⟨_,J,λC H' hc sm pins H2 s2 P ea s' ec I fl=>?_⟩⟩
   ·cases j with
    |zero=>cases d;cases f2;exact⟨p,us,rfl,V,O.ro⟩
    |succ j=>cases d
   ·cases ec
    exact kk W1 H' C hc (L.trans (Step.same sm)) (U.same sm) pins ea s' (.inl ⟨s2,H2,I,fl⟩)⟩
def Lx{X:Cx}{es:h6}:PA X es (λ_ _ _=>False):=λ_ _ _ _ _ _ _ h=>h.elim
def Ly(D:JX X G H0 a y):JX X G H0 (.BinOp a .Sub b pos) y:=⟨(qH Bj D.out (Lr (e:=b))).imp λ_ _ _ z=>z⟩
def zl(D:JX X G H0 e y)(U:‹starEach (e::es) X.env=(false,eval e X.env)::starEach es X.env›):mB X G H0 (e::es) y:=⟨λpos pins s σ H Q I h=>(oy D.out (Lx (es:=es)) U) pos pins s σ H Q I h⟩
end
def oV:V->Prop | .bl _=>True | .int _=>True | .str _=>True |_=>False
def oW:D->Bool | .bl _=>true | .int _=>true | .str _=>true |_=>false
instance (ds es:i0):Decidable (ds=es/\ds.all oW=true):=Classical.propDecidable _
def iY:D->D->jj | .tup ds,.tup es=>if ds=es/\ds.all oW=true then ↑(.bl false) else none |_,_=>none
def oX(K:ic):R2:=λx y H Q=>∃p q vs,x=.ref p/\y=.ref q/\dV K H p vs/\dV K H q vs/\(∀v∈vs,oV v)/\Q (.bl false) H
theorem Lz(d:X.A.units<cLine):fN X (compareOp .NotEq) (oX X.K):=by
 intro pins s σ H x y v u Q I f g h;obtain⟨p,q,vs,rfl,rfl,h1,h2,k,l⟩:=h;cases f;cases g;obtain⟨its,a,m,_⟩:=I.tuple h1;obtain⟨its',D,Y,_⟩:=I.tuple h2;show wpAny (model X.prog X.w) X.A (richCompare .NotEq (.ref p) (.ref q)) (EP X pins σ Q) X.xe s;have n:=a.length;have o:=D.length;have r:=SeqAt.RcNeAt.tuples (A:=X.A) (s:=s) (e:=λ_=>true) (show s.heap.IsTuple p its.toArray from m) (show s.heap.IsTuple q its'.toArray from Y) d (λj h1 h2=>by
  have h1:j<its.length:=by simpa using h1
  have h2:j<its'.length:=by simpa using h2
  have Z:vs[j]?=↑(vs[j]'∅):=aq _;obtain⟨z,B,U⟩:=a.get Z;obtain⟨C,E,V⟩:=D.get Z;have F:its.toArray[j]'(by simpa using h1)=z:=by simpa[aq h1] using B
  have f2:its'.toArray[j]'(by simpa using h2)=C:=by simpa[aq h2] using E
  rw[F,f2];have c:=k _ (bn Z);generalize vs[j]'∅=v at U V c;cases v with
  |bl b=>cases U;cases V;have:=SeqAt.EqAt.bool_bool (A:=X.A.in1) (s:=s) b b;rwa [nv] at this
  |int i=>obtain⟨t,rfl⟩:=U;obtain⟨t',rfl⟩:=V;have:=SeqAt.EqAt.int_int (A:=X.A.in1) (s:=s) i t i t';rwa [nv] at this
  |str x=>obtain⟨t,rfl⟩:=U;obtain⟨t',rfl⟩:=V;have:=SeqAt.EqAt.str_str (A:=X.A.in1) (s:=s) x t x t';rwa [nv] at this |_=>exact c.elim)
 exact r X.prog X.w X.xe _ (mf I l (by simp[<-n,<-o]))
def DD{K:ic}{H:Hp}{O:Addr->Prop}:∀ {ds:i0} {vs us:ip},aI K H O ds vs->aI K H O ds us->ds.all oW=true->vs=us/\∀v∈vs,oV v
 | [],vs,us,r,q,_=>by cases r;cases q;exact⟨rfl,λv h=>by cases h⟩
 |d::ds,vs,us,r,q,h=>by
   cases r with
   |cons r0 r =>
     cases q with
     |cons q0 q =>
       rw[List.all_cons,fq] at h;obtain⟨rfl,h2⟩:=DD r q h.2;have h1:=h.1;cases d <;> try (cases h1;done)
       all_goals (cases r0;cases q0;exact⟨rfl,λv I=>(cf.mp I).elim (λe=>by subst e;trivial) (h2 v)⟩)
def L0:fM X G H0 (oX X.K) iY:=by
 intro W env σ H x y Z a d Q ok D I e k;unfold iY at e;split at e;case h_2=>cases e
 split at e;case isFalse=>cases e
 rename_i h;cases e;obtain⟨rfl,h⟩:=h;obtain⟨p,vs,rfl,h1,U⟩:=D.tup_;obtain⟨q,us,rfl,h2,V⟩:=I.tup_;obtain⟨rfl,Y⟩:=DD U V h;exact⟨p,q,vs,rfl,rfl,dV.of h1,dV.of h2,Y,k _ H Step.refl ok (.bl _)⟩
def L1{f g:FE}(D:bE jr X.A)(I:aT X G H0 a f)(U:aT X G H0 b g):fV X G H0 (.Compare a [.NotEq] [b] pos) (aJ (aD iY f g)):=lQ (Lz (l9 (mv _) (BJ D))) L0 I U (zi _)
end L2
local macro_rules | `(!$t)=>`(some (.sh $t))
local macro_rules | `([:$t])=>`(L2.fC (.int $t))
namespace LB
open PySem L2
def DE:FS:=aM (aD bO (aD bT (aH 0 [:1]) (aH 1 [:0])) (aD bT (aH 1 [:1]) (aH 0 [:0])))
def x6:i0->jj:=aR 2 2 DE
def sv:FS:=aE (aG 2 (e9 x6 (bc (aB 0) (bc (aB 1) (aC))))) (aE (bZ (aJ (aD dU (aB 2) [:0])) (aM [:1]) (aU)) (aE (bZ (aJ (aD fB (aB 2) [:0])) (aM (iN fO [:1])) (aU)) (aM [:0])))
def x9:i0->jj:=aR 3 2 sv
def DF:FS:=aM (qR (eN "int" (aB 0)) (vW (eN "bool" (aB 0))))
def mM:i0->jj:=aR 1 1 DF
def y0:FS:=aE (bZ (aJ (aD fB (aB 1) (ir 0))) (aM (aH 0 (aB 1))) (aU)) (aM [:0])
def oY:i0->jj:=aR 2 2 y0
def sx:FS:=aE (aG 5 (e9 oY (bc (aB 0) (bc (aB 4) (aC))))) (aE (bZ (aJ (aD eU (aD aZ (ir 0) [:2]) [:1])) (aE (aG 3 (aD aZ (aD iw (aD iw (aD iw (aD bT (aB 3) [:48271]) (aB 5)) (aB 4)) [:1]) [:2147483647])) (aG 5 (aD aZ (aD bT (aD iw (aB 3) (aB 4)) [:69621]) [:2147483647]))) (aU)) (j1 (qc 2 (aB 5))))
def DG:FS:=aE (bM 2 (ij (aC))) (aE (aG 3 [:7]) (aE (bP 4 (gq eV (bc (aB 1) (aC))) (sx)) (aM (aB 2))))
def oZ:i0->jj:=aR 6 2 DG
def L3:FS:=aM (aH 0 [:1])
def um:i0->jj:=aR 1 1 L3
def L4:FS:=aM (aH 0 [:2])
def zt:i0->jj:=aR 1 1 L4
def L5:FS:=aM (bH (bc [:1] (bc (e9 um (bc (aB 0) (aC))) (bc (e9 zt (bc (aB 0) (aC))) (aC)))))
def sy:i0->jj:=aR 1 1 L5
def DH:FS:=aM (bH (bc (aD iw (aH 0 [:0]) (aH 1 [:0])) (bc (aD iw (aH 0 [:1]) (aH 1 [:1])) (bc (aD iw (aH 0 [:2]) (aH 1 [:2])) (aC)))))
def sA:i0->jj:=aR 2 2 DH
def DI:FS:=aM (bH (bc (aH 0 [:1]) (bc (aH 0 [:2]) (aC))))
def o_:i0->jj:=aR 1 1 DI
def sB:FS:=aM (aD dU (e9 x9 (bc (e9 o_ (bc (aB 0) (aC))) (bc (e9 o_ (bc (aB 1) (aC))) (aC)))) [:0])
def yb:i0->jj:=aR 2 2 sB
def sC:FS:=aG 3 (e9 sA (bc (kW 1) (bc (aB 3) (aC))))
def sE:FS:=aE (aG 3 (e9 sy (bc (aB 2) (aC)))) (aE (qm (dR (aJ (aD dU (ir 1) [:0])) (dS (aJ (e9 yb (bc (aH 1 (iN fO [:1])) (bc (aB 3) (aC))))))) (sC) 10000) (j1 (qc 1 (aB 3))))
def y3:FS:=aE (bM 1 (ij (aC))) (aE (bP 2 (cX (aB 0)) (sE)) (aM (aB 1)))
def y4:i0->jj:=aR 4 1 y3
def yA:FS:=aE (bZ (aJ (aD eU (ir 0) [:0])) (aM (aL (ij (aC)))) (aU)) (aE (aG 1 (aH 0 (aD bO (ir 0) [:1]))) (aM (aL (cW (aL (gG (aB 0) (gP) (gB (aD bO (ir 0) [:1])))) (aL (ij (bc (bH (bc (aH 1 [:0]) (bc (aH 1 [:1]) (bc (aD iw (aH 1 [:2]) [:1]) (aC))))) (aC))))))))
def l0:i0->jj:=aR 2 1 yA
def sF:FS:=aE (aG 9 (aH 0 (aD iw [:1] (aB 8)))) (aE (aG 10 (aD iw [:1] (aD aZ (aB 9) [:60]))) (aE (aG 11 (aD aZ (aD bV (aB 9) [:60]) [:101])) (aE (bZ (aJ (aD eU (aB 4) [:1])) (aE (aG 10 (aD iw [:1] (aD aZ (aB 9) (aD bO [:4] (aD bT [:2] (aB 5)))))) (aG 11 (aD aZ (aD bV (aB 9) [:60]) (aD bO [:4] (aD bT [:2] (aB 5)))))) (aU)) (aE (bZ (aJ (aD eU (aB 4) [:2])) (aE (aG 10 (aD cV (aL (ij (bc [:1] (bc [:60] (bc [:2] (bc [:59] (aC))))))) (aD aZ (aB 9) [:4]))) (aG 11 (aD cV (aL (ij (bc [:0] (bc [:100] (bc [:1] (bc [:99] (aC))))))) (aD aZ (aD bV (aB 9) [:60]) [:4])))) (aU)) (aE (bZ (aJ (aD eU (aB 4) [:3])) (aE (aG 10 (aD cV (aL (ij (bc (aB 10) (bc (aD iw [:58] (aD aZ (aB 9) [:3])) (aC))))) (aB 5))) (aG 11 (aB 10))) (aU)) (aE (aG 12 (aD aZ (aD cV (aL (ij (bc (aD bV (aB 9) [:6060]) (bc (aB 8) (aC))))) (aD bT (aD bV (aB 4) [:3]) (aB 5))) (aB 2))) (aE (aG 13 (zf 7 (aD aZ (aD bV (aB 9) [:30300]) (ir 7)))) (j1 (rA 6 (aB 12) (bH (bc (aB 13) (bc (aB 10) (bc (aB 11) (aC))))))))))))))
def zz:FS:=aE (aG 2 (aD cV (aL (ij (bc [:5] (bc [:3] (bc [:2] (bc [:4] (bc [:1] (bc [:5] (bc [:0] (bc [:4] (bc [:3] (bc [:5] (bc [:2] (bc [:4] (aC))))))))))))))) (aD aZ (aH 0 [:0]) [:12]))) (aE (aG 3 (aD bO (aB 1) (aD aZ (aD bV (aH 0 [:0]) [:12]) (aD iw (aB 1) [:1])))) (aE (aG 4 (aD aZ (aD bV (aH 0 [:0]) [:180]) [:4])) (aE (aG 5 (aD aZ (aD bV (aH 0 [:0]) [:720]) [:2])) (aE (mi 6 (xo (gq eV (bc (aB 2) (aC))) [] (ij (aC)))) (aE (bM 7 (gq lV (bc [:1] (bc [:61] (aC))))) (aE (bP 8 (gq eV (bc (aD bT (aB 3) (e9 jR (bc (aB 2) (bc [:1] (aC))))) (aC))) (sF)) (aE (bZ (dR (aJ (aD eU (aB 4) [:3])) (aJ (aD eU (aB 5) [:1]))) (aG 6 (aL (j7 (cX (aB 6)) [] cG (e9 l0 (bc (aB 0) (aC)))))) (aU)) (aM (aB 6)))))))))
def sG:i0->jj:=aR 14 2 zz
def sH:FS:=aE (bZ (dR (aJ (eN "str" (aH 1 (aB 2)))) (dS (aJ (eN "str" (aH 0 (aB 2)))))) (aM (fC (.bl false))) (aU)) (aE (bZ (dR (dS (aJ (eN "str" (aH 1 (aB 2))))) (dS (aJ (e9 mM (bc (aH 0 (aB 2)) (aC)))))) (aM (fC (.bl false))) (aU)) (bZ (aJ (aD kF (aH 0 (aB 2)) (aH 1 (aB 2)))) (aM (fC (.bl false))) (aU)))
def yB:FS:=aE (bZ (gK (dS (aJ (eN "tuple" (aB 0)))) (aJ (aD kF (ir 0) (ir 1)))) (aM (fC (.bl false))) (aU)) (aE (bP 2 (gq eV (bc (ir 1) (aC))) (sH)) (aM (fC (.bl true))))
def yC:i0->jj:=aR 3 2 yB
def yD:FS:=bZ (dS (aJ (e9 yC (bc (aH 0 (aB 2)) (bc (aH 1 (aB 2)) (aC)))))) (aM (fC (.bl false))) (aU)
def yE:FS:=aE (bZ (gK (dS (aJ (eN "list" (aB 0)))) (aJ (aD kF (ir 0) (ir 1)))) (aM (fC (.bl false))) (aU)) (aE (bP 2 (gq eV (bc (ir 1) (aC))) (yD)) (aM (fC (.bl true))))
def sI:i0->jj:=aR 3 2 yE
def DJ:FS:=aM (bH (bc (aH 0 [:2]) (bc (aH 0 [:3]) (aC))))
def wt:i0->jj:=aR 1 1 DJ
def pa:FS:=aG 2 (aD iw (aB 2) [:1])
def yF:FS:=aE (aG 2 [:0]) (aE (qm (dR (aJ (aD fB (aB 2) (ir 0))) (aJ (aD jN (e9 x9 (bc (e9 wt (bc (aH 0 (aB 2)) (aC))) (bc (e9 wt (bc (aB 1) (aC))) (aC)))) [:0]))) (pa) 10000) (aM (aB 2)))
def yG:i0->jj:=aR 3 2 yF
def pb:FS:=aE (aG 7 (bH (bc (aB 2) (bc (aB 4) (bc (aB 5) (bc (aB 6) (aC))))))) (j1 (wm 1 (oD yG (rH 1 (bc (aB 7) (aC)))) (aB 7)))
def sJ:FS:=p8 [4,5,6] (cX (e9 y4 (bc (aB 3) (aC)))) (pb)
def yH:FS:=aE (bM 1 (ij (aC))) (aE (p8 [2,3] (gq (gX 1) (bc (aB 0) (aC))) (sJ)) (aM (aB 1)))
def va:i0->jj:=aR 8 1 yH
def yI:FS:=bZ (dS (aJ (e9 sI (bc (aH 0 (aB 2)) (bc (aH 1 (aB 2)) (aC)))))) (aM (fC (.bl false))) (aU)
def yJ:FS:=aE (bZ (gK (dS (aJ (eN "list" (aB 0)))) (aJ (aD kF (ir 0) (ir 1)))) (aM (fC (.bl false))) (aU)) (aE (bP 2 (gq eV (bc (ir 1) (aC))) (yI)) (aM (fC (.bl true))))
def yK:i0->jj:=aR 3 2 yJ
def yL:FS:=wG (j7 (cX (aB 0)) [] cG (aL (gq tf (bc (aB 0) (aC)))))
def yM:i0->Option i0:=fW 1 1 yL
def sK:FS:=j1 (rD 1 (iC (ij (bc (aB 2) (aC))) (aB 3)))
def yN:FS:=aE (bM 1 (ij (aC))) (aE (p8 [2,3,4,5] (cX (e9 va (bc (aB 0) (aC)))) (sK)) (lZ 1))
def zx:i0->Option i0:=fW 6 1 yN
def pc:FS:=aE (aG 2 (aD iw (aB 2) (aD cV (aH 0 (aB 4)) [:1]))) (aE (aG 3 (aD iw (aB 3) (aD cV (aH 0 (aB 4)) [:2]))) (bZ (aJ (aD jN (aD bT (aB 3) (aH 1 [:1])) (aD bT (aH 1 [:2]) (aB 2)))) (aG 1 (aL (ij (bc (aD iw (aB 4) [:1]) (bc (aB 2) (bc (aB 3) (aC))))))) (aU)))
def sL:FS:=aE (aG 1 (aL (ij (bc [:0] (bc [:1] (bc (iN fO [:1]) (aC))))))) (aE (aG 2 [:0]) (aE (aG 3 [:0]) (aE (bP 4 (gq eV (bc (ir 0) (aC))) (pc)) (aM (aB 1)))))
def pf:i0->jj:=aR 5 1 sL
def mO:FS:=bZ (aJ (aD dU (aD bT (aD cV (aH 3 (aB 5)) [:2]) (aD cV (aH 3 (aB 4)) [:1])) (aD bT (aD cV (aH 3 (aB 4)) [:2]) (aD cV (aH 3 (aB 5)) [:1])))) (aG 4 (aB 5)) (aU)
def sM:FS:=aE (aG 3 (aL (j7 (kY 1) [] cG (e9 pf (bc (aB 0) (aC)))))) (aE (aG 4 [:0]) (aE (bP 5 (gq eV (bc (ir 3) (aC))) (mO)) (aE (j1 (qc 2 (bH (bc (aD iw (aB 4) [:1]) (bc (aD cV (aH 3 (aB 4)) [:0]) (bc (aD cV (aH 3 (aB 4)) [:1]) (bc (aD cV (aH 3 (aB 4)) [:2]) (aC)))))))) (ze 1 (aB 4) (aL (gG (aH 1 (aB 4)) (gB (aD cV (aH 3 (aB 4)) [:0])) (gP)))))))
def yO:FS:=aE (bM 1 (j7 (cX (aB 0)) [] cG (aL (gq tf (bc (aB 0) (aC)))))) (aE (bM 2 (ij (aC))) (aE (qm (aJ (aD dU (e9 gF (bc (aL (j7 (kY 1) [] cG (ir 0))) (aC))) [:0])) (sM) 10000) (aM (aB 2))))
def pu:i0->jj:=aR 6 1 yO
def yP:FS:=bM 1 (cW (aB 1) (aL (iC (ij (bc (aH 2 [:0]) (aC))) (aH 2 [:1]))))
def yQ:FS:=aE (bM 1 (ij (aC))) (aE (bP 2 (cX (e9 pu (bc (aB 0) (aC)))) (yP)) (lZ 1))
def yR:i0->Option i0:=fW 3 1 yQ
def yS:FS:=bZ (gK (dS (aJ (e9 mM (bc (aH 0 (aB 2)) (aC))))) (aJ (aD kF (aH 0 (aB 2)) (aH 1 (aB 2))))) (aM (fC (.bl false))) (aU)
def yT:FS:=aE (bZ (gK (dS (aJ (eN "list" (aB 0)))) (aJ (aD kF (ir 0) (ir 1)))) (aM (fC (.bl false))) (aU)) (aE (bP 2 (gq eV (bc (ir 1) (aC))) (yS)) (aM (fC (.bl true))))
def yU:i0->jj:=aR 3 2 yT
def L6:FS:=aM (aH 0 [:0])
def pd:i0->jj:=aR 1 1 L6
def yV:FS:=bZ (gK (aJ (aD fB (aB 1) [:1])) (aJ (aD dU (aB 1) (ir 0)))) (rd) (aU)
def yW:i0->jj:=aR 2 2 yV
def sN:FS:=aE (bZ (aJ (aD eU (aH 2 (aD bO (aB 3) [:1])) [:0])) (rd) (aU)) (vm 2 bO (aD bO (aB 3) [:1]) [:1])
def yX:FS:=aE (bM 2 (j7 (cX (aB 0)) [] cG (ir 0))) (aE (bP 3 (cX (aB 1)) (sN)) (bZ (aJ (aD dU (xj 2) [:0])) (rd) (aU)))
def yY:i0->jj:=aR 4 2 yX
def sO:FS:=j1 (e9 yW (bc (aB 0) (bc (aB 2) (aC))))
def yZ:FS:=aE (bP 2 (cX (aB 1)) (sO)) (j1 (e9 yY (bc (aB 0) (bc (aB 1) (aC)))))
def y_:i0->jj:=aR 3 2 yZ
def pw:FS:=aE (j1 (qc 3 (aD cV (aH 0 (aD bO (aB 4) [:1])) (aH 2 (aD bO (aB 4) [:1]))))) (vm 2 iw (aD bO (aB 4) [:1]) [:1])
def p3:FS:=aE (j1 (e9 y_ (bc (aB 0) (bc (aB 1) (aC))))) (aE (bM 2 (j7 (cX (aB 0)) [] cG [:0])) (aE (bM 3 (ij (aC))) (aE (bP 4 (cX (aB 1)) (pw)) (aM (aB 3)))))
def zy:i0->jj:=aR 5 2 p3
def sP:FS:=aE (aG 6 (aD iw (aB 3) (e9 um (bc (aB 5) (aC))))) (aE (j1 (qc 2 (bH (bc (e9 pd (bc (aB 5) (aC))) (bc (aB 4) (bc (aB 3) (bc (aB 6) (aC)))))))) (aG 3 (aB 6)))
def p4:FS:=aE (bM 2 (ij (aC))) (aE (aG 3 [:0]) (aE (p8 [4,5] (gq kG (bc (aB 1) (bc (e9 zy (bc (aB 0) (bc (aB 1) (aC)))) (aC)))) (sP)) (aM (aB 2))))
def DK:i0->jj:=aR 7 2 p4
def zv:FS:=aE (aG 5 (aL (rF (gq eV (bc (ir 2) (aC))) [2] (aJ (aD dU (aH 1 (aB 0)) [:0])) (aB 0)))) (aE (aG 6 (aH 5 (aD aZ (aB 1) (ir 5)))) (aE (aG 1 (aD bV (aB 1) (ir 5))) (aE (ze 2 (aB 6) (aD bO (aH 2 (aB 6)) [:1])) (j1 (qc 3 (aD iw (aB 6) [:1]))))))
def z4:FS:=aE (bM 2 (j7 (cX (aB 0)) [] cG (ir 0))) (aE (bM 3 (ij (aC))) (aE (bP 4 (gq eV (bc (xj 2) (aC))) (zv)) (lZ 3)))
def zA:i0->Option i0:=fW 7 2 z4
def mP:FS:=aE (aG 2 (aD bV (aB 1) [:3])) (aE (bM 3 (gq zA (bc (aB 0) (bc (aB 2) (aC))))) (aE (bZ (dR (aJ (aD eU (aD aZ (aB 1) [:3]) [:1])) (aJ (aD dU (ir 3) [:0]))) (aE (bM 3 (gq yR (bc (aB 0) (aC)))) (aE (aG 4 (zf 3 (aD aZ (aB 2) (ir 3)))) (j1 (wm 3 (aD aZ (aD bV (aB 2) [:14]) (aD iw (ir 3) [:1])) (aB 4))))) (aU)) (aM (aB 3))))
def zB:i0->jj:=aR 5 2 mP
def sQ:FS:=aE (aG 3 (aD iw (aB 3) (e9 um (bc (aB 4) (aC))))) (aG 2 (aD iw (aB 2) (aD bT (e9 zt (bc (aB 4) (aC))) (aB 3))))
def p5:FS:=aE (aG 2 [:0]) (aE (aG 3 [:0]) (aE (bP 4 (cX (e9 zy (bc (aB 0) (bc (aB 1) (aC))))) (sQ)) (aM (aB 2))))
def sR:i0->jj:=aR 5 2 p5
def zC:FS:=aM (e9 sR (bc (aB 0) (bc (aL (gq zx (bc (aB 0) (aC)))) (aC))))
def sS:i0->jj:=aR 1 1 zC
def sT:FS:=aE (aG 8 (aH 2 (aD bO (aB 4) [:1]))) (aE (ze 2 (aD bO (aB 4) [:1]) (aD iw (aB 8) (aB 5))) (j1 (qc 3 (aL (gG (aH 0 (aD bO (aB 4) [:1])) (gB (aB 8)) (gB (aD iw (aB 8) (aB 5))))))))
def zD:FS:=aE (bM 2 (j7 (cX (aB 0)) [] cG [:0])) (aE (bM 3 (ij (aC))) (aE (p8 [4,5,6,7] (cX (aB 1)) (sT)) (aM (aB 3))))
def sU:i0->jj:=aR 9 2 zD
def zE:FS:=aE (aG 3 (aD iw (aB 3) (e9 um (bc (aB 5) (aC))))) (aE (aG 4 (aD iw (aB 4) (e9 zt (bc (aB 5) (aC))))) (j1 (qc 2 (e9 x6 (bc (aB 0) (bc (bH (bc (aB 3) (bc (aB 4) (aC)))) (aC)))))))
def zF:FS:=aE (bM 2 (ij (aC))) (aE (aG 3 [:0]) (aE (aG 4 [:0]) (aE (bP 5 (cX (aL (gG (aB 1) (gP) (gB (iN fO [:1]))))) (zE)) (aM (aB 2)))))
def sV:i0->jj:=aR 6 2 zF
def zG:FS:=aM (bH (bc (e9 um (bc (aB 0) (aC))) (bc (e9 zt (bc (aB 0) (aC))) (aC))))
def mQ:i0->jj:=aR 1 1 zG
def zH:FS:=aM (e9 zb (bc (aL (mx 2 (gq (gX 0) (bc (aB 0) (aC))) [] cG (bH (bc (e9 pd (bc (aB 1) (aC))) (bc (aB 0) (aC)))))) (aC)))
def mR:i0->jj:=aR 1 1 zH
def p6:FS:=bZ (aJ (aD fB (aD ud (aB 2) (e9 pd (bc (aB 7) (aC)))) (aD ud (aB 2) (e9 pd (bc (aB 6) (aC)))))) (aE (aG 8 (e9 x6 (bc (e9 mQ (bc (aB 6) (aC))) (bc (e9 mQ (bc (aB 7) (aC))) (aC))))) (j1 (qc 4 (bH (bc (e9 pd (bc (aB 6) (aC))) (bc (e9 pd (bc (aB 7) (aC))) (bc (aB 8) (aC)))))))) (aU)
def sW:FS:=bP 7 (cX (aL (gG (aB 3) (gB (aD iw (aB 5) [:1])) (gP)))) (p6)
def pA:FS:=aE (aG 2 (e9 mR (bc (e9 zy (bc (aB 0) (bc (aB 1) (aC)))) (aC)))) (aE (aG 3 (e9 zy (bc (aB 0) (bc (aL (gq zx (bc (aB 0) (aC)))) (aC))))) (aE (bM 4 (ij (aC))) (aE (p8 [5,6] (gq (gX 0) (bc (aB 3) (aC))) (sW)) (aM (aB 4)))))
def DL:i0->jj:=aR 9 2 pA
def zI:FS:=aM (e9 gF (bc (aL (j7 (cX (aB 0)) [] cG (ir 0))) (aC)))
def zJ:i0->jj:=aR 1 1 zI
def zK:FS:=aM (aL (cW (aL (cW (aL (gG (aB 0) (gP) (gB (aD bO (aB 1) [:1])))) (aL (ij (bc (aB 2) (aC)))))) (aL (gG (aB 0) (gB (aB 1)) (gP)))))
def sX:i0->jj:=aR 3 3 zK
theorem L7(ns:g8)(k:Nat):∃c,oY [.lst (ns.map D.int),↥k]=↑↥c:=by
 by_cases h:(k:Int)<ns.length
 ·obtain⟨x,h1,h2⟩:=De (xs:=ns.map D.int) (i:=(k:Int)) ∅ (by simpa using h)
  rw[bj] at h2;cases q:ns[(k:Int).toNat]? with
  |none=>rw[q] at h2;cases h2
  |some c =>
    rw[q] at h2;cases h2;simp[oY,aR,y0,kr,h,h1]
 ·refine⟨0,?_⟩
  simp[oY,aR,y0,kr,h]
theorem L8(ns:g8)(n:Nat)(b:n<=1000):∃cs:g8,cs.length=n/\oZ [.lst (ns.map D.int),↥n]=↑(.lst (cs.map D.int)):=by
 have loop:=uk (i:=4) (g:=sx)
  (λk e=>∃(cs:g8) (st:Int) (v4 v5:j0),cs.length=k/\e=[!.lst (ns.map D.int),!↥n,↑(.ow (cs.map D.int)),!↥st,v4,v5])
  (bL 0 n) [!.lst (ns.map D.int),!↥n,↑(.ow []),!↥7,none,none] ⟨[],7,none,none,rfl,rfl⟩ ?_
 ·obtain⟨e',h1,cs,st,v4,v5,U,rfl⟩:=loop
  refine⟨cs,by rw[U,u4],?_⟩;have Z:=qh n ∅;simp[oZ,aR,DG,kr,Z,h1]
 ·rintro k d e hd ⟨cs,st,v4,v5,U,rfl⟩
  obtain⟨rfl,f⟩:=uj hd;obtain⟨c,V⟩:=L7 ns k;have I:cE (cs.length+1):=few ∅;by_cases Y:(ns.length:Int) % 2=1
  ·refine⟨_,?_,cs++[((st*48271+c+k+1) % 2147483647+k)*69621 % 2147483647],(st*48271+c+k+1) % 2147483647,!↥(0+k),!↥(((st*48271+c+k+1) % 2147483647+k)*69621 % 2147483647),by simp[U],rfl⟩
   have a:n8 48271:=qa (by decide);have s2:n8 69621:=qa (by decide);simp[sx,V,Y,aZ,bT,a,s2,I]
  ·refine⟨_,?_,cs++[c],st,!↥(0+k),!↥c,by simp[U],rfl⟩
   simp[sx,V,Y,aZ,I]
def sY(a b c d:Int)(D:n8 b)(hd:n8 d) :
  x6 [.tup [↥a,↥b],.tup [↥c,↥d]]=↑↥(b*c-d*a):=by
 simp[x6,aR,DE,kr,bT,D,hd,bJ,dJ]
theorem DM(a b c d:Int)(V:n8 b)(hd:n8 d) :
  x9 [.tup [↥a,↥b],.tup [↥c,↥d]]=↑↥(if d*a<b*c then 1 else if b*c<d*a then -1 else 0):=by
 have I:=sY a b c d V hd;by_cases h1:d*a<b*c
 ·have D:0<b*c-d*a:=by lia
  simp[x9,aR,sv,kr,I,h1,D]
 ·have D:¬0<b*c-d*a:=by lia
  by_cases h2:b*c<d*a
  ·have U:b*c-d*a<0:=by lia
   simp[x9,aR,sv,kr,I,h1,h2,D,U]
  ·have U:¬b*c-d*a<0:=by lia
   simp[x9,aR,sv,kr,I,h1,h2,D,U]
def zL(i:Int):mM [↥i]=↑(.bl true):=by
 simp[mM,aR,DF,kr]
abbrev Sk:=Int×Int×Int
abbrev kf:=List Sk
abbrev kl:=List (List Sk)
def sD(s:Sk):D:=.tup [↥s.1,↥s.2.1,↥s.2.2]
def i6(s:Sk):Prop:=1<=s.1/\s.1<=60/\1<=s.2.1/\s.2.1<=60/\0<=s.2.2/\s.2.2<=100
def mS:gA 1 1073741824 60:=⟨by decide,by decide⟩
def b3:gA 1 1073741824 3:=⟨by decide,by decide⟩
def zM:gA 1 1073741824 12:=⟨by decide,by decide⟩
def l2:gA 1 1073741824 180:=⟨by decide,by decide⟩
def l3:gA 1 1073741824 720:=⟨by decide,by decide⟩
def L9:gA 1 1073741824 6060:=⟨by decide,by decide⟩
def LA:gA 1 1073741824 30300:=⟨by decide,by decide⟩
variable{n i:Nat}
def tu{i:Int}(D:0<=i)(h1:i<n):dJ n i=↑i.toNat:=by unfold dJ;rw[ax D,ax h1]
def zN{α β:Type}(f:α->β):∀(l:List α) (n:Nat),(l.eraseIdx n).map f=(l.map f).eraseIdx n
 | [],n=>by simp |a::l,0=>rfl
 |a::l,n+1=>by simp[List.eraseIdx_cons_succ,zN f l n]
theorem DN(a b c d i:Int)(I:0<=i)(h1:i<4):∃x,bJ [D.int a,D.int b,D.int c,D.int d] i=↑↥x/\(x=a\/x=b\/x=c\/x=d):=by
 have:i=0\/i=1\/i=2\/i=3:=by lia
 rcases this with rfl |rfl |rfl |rfl
 ·exact⟨a,rfl,by simp⟩
 ·exact⟨b,rfl,by simp⟩
 ·exact⟨c,rfl,by simp⟩
 ·exact⟨d,rfl,by simp⟩
theorem zO(i:Int)(I:0<=i)(h1:i<12):∃x:Int,bJ [D.int 5,↥3,↥2,↥4,↥1,↥5,↥0,↥4,↥3,↥5,↥2,↥4] i=↑↥x/\0<=x/\x<=5:=by
 have:i=0\/i=1\/i=2\/i=3\/i=4\/i=5\/i=6\/i=7\/i=8\/i=9\/i=10\/i=11:=by lia
 rcases this with rfl |rfl |rfl |rfl |rfl |rfl |rfl |rfl |rfl |rfl |rfl |rfl <;> exact⟨_,rfl,by decide,by decide⟩
noncomputable def hl:FS:=aE (aG 10 (aD iw [:1] (aD aZ (aB 9) [:60]))) (aE (aG 11 (aD aZ (aD bV (aB 9) [:60]) [:101])) (aE (bZ (aJ (aD eU (aB 4) [:1])) (aE (aG 10 (aD iw [:1] (aD aZ (aB 9) (aD bO [:4] (aD bT [:2] (aB 5)))))) (aG 11 (aD aZ (aD bV (aB 9) [:60]) (aD bO [:4] (aD bT [:2] (aB 5)))))) (aU)) (aE (bZ (aJ (aD eU (aB 4) [:2])) (aE (aG 10 (aD cV (aL (ij (bc [:1] (bc [:60] (bc [:2] (bc [:59] (aC))))))) (aD aZ (aB 9) [:4]))) (aG 11 (aD cV (aL (ij (bc [:0] (bc [:100] (bc [:1] (bc [:99] (aC))))))) (aD aZ (aD bV (aB 9) [:60]) [:4])))) (aU)) (bZ (aJ (aD eU (aB 4) [:3])) (aE (aG 10 (aD cV (aL (ij (bc (aB 10) (bc (aD iw [:58] (aD aZ (aB 9) [:3])) (aC))))) (aB 5))) (aG 11 (aB 10))) (aU)))))
noncomputable def pl:FS:=aE (aG 12 (aD aZ (aD cV (aL (ij (bc (aD bV (aB 9) [:6060]) (bc (aB 8) (aC))))) (aD bT (aD bV (aB 4) [:3]) (aB 5))) (aB 2))) (aE (aG 13 (zf 7 (aD aZ (aD bV (aB 9) [:30300]) (ir 7)))) (j1 (rA 6 (aB 12) (bH (bc (aB 13) (bc (aB 10) (bc (aB 11) (aC))))))))
def LC:sF=aE (aG 9 (aH 0 (aD iw [:1] (aB 8)))) (aE hl pl):=by
 unfold hl;simp only[Ko];rfl
theorem LD(a v1 v2 v3 v6 b d V Y D I:j0)(menu turn c:Int)(g:0<=menu/\menu<4)(i:0<=turn/\turn<2) :
  ∃h l:Int,(1<=h/\h<=60/\0<=l/\l<=100/\(menu=3->l<=60))/\hl [a,v1,v2,v3,!↥menu,!↥turn,v6,b,d,!↥c,V,Y,D,I] =
   ↑(.nx,[a,v1,v2,v3,!↥menu,!↥turn,v6,b,d,!↥c,!↥h,!↥l,D,I]):=by
 have Z:menu=0\/menu=1\/menu=2\/menu=3:=by lia
 have U:turn=0\/turn=1:=by lia
 have s2:n8 2:=qa (by decide);rcases Z with rfl |rfl |rfl |rfl
 ·refine⟨1+c % 60,c / 60 % 101,by lia,?_⟩
  simp[hl,aZ,bV,mS]
 ·rcases U with rfl |rfl
  ·refine⟨1+c % 4,c / 60 % 4,by lia,?_⟩
   simp[hl,aZ,bV,bT,mS,s2]
  ·refine⟨1+c % 2,c / 60 % 2,by lia,?_⟩
   simp[hl,aZ,bV,bT,mS,s2]
 ·obtain⟨x,e,ex⟩:=DN 1 60 2 59 (c % 4) ∅ ∅
  obtain⟨y,f,j⟩:=DN 0 100 1 99 (c / 60 % 4) ∅ ∅;refine⟨x,y,by lia,?_⟩;simp[hl,aZ,bV,mS,e,f]
 ·rcases U with rfl |rfl
  ·refine⟨1+c % 60,1+c % 60,by lia,?_⟩
   simp[hl,aZ,bV,mS,bJ,dJ]
  ·refine⟨58+c % 3,58+c % 3,by lia,?_⟩
   simp[hl,aZ,bV,mS,bJ,dJ]
theorem LF(g v1 v3 Y Z:j0)(many menu turn k c h l:Int)(dss:List i0)(pool:g8)(y:0<=menu/\menu<4)(A:0<=turn/\turn<2)(I:0<many)(hd:(dss.length:Int)=many)(m:0<pool.length)(o:pool.length<=60)(a:∀ds∈dss,ds.length<=1000) :
  ∃(j n:Nat) (z:Int) (ds:i0) (p:Int),dss[j]?=↑ds/\pool[n]?=↑z/\pl [g,v1,!↥many,v3,!↥menu,!↥turn,↑(.o2 dss),↑(.ow (pool.map D.int)),!↥k,!↥c,!↥h,!↥l,Y,Z] =
   ↑(.nx,[g,v1,!↥many,v3,!↥menu,!↥turn,↑(.o2 (dss.set j (ds++[sD (z,h,l)]))),↑(.ow ((pool.eraseIdx n).map D.int)),!↥k,!↥c,!↥h,!↥l,!↥p,!↥z]):=by
 obtain⟨q,hq⟩:∃q:Int,bJ [D.int (c / 6060),D.int k] (menu / 3*turn)=↑↥q:=by
  have:menu / 3*turn=0\/menu / 3*turn=1:=by
   have h1:menu / 3=0\/menu / 3=1:=by lia
   have h2:turn=0\/turn=1:=by lia
   rcases h1 with h1 |h1 <;> rcases h2 with h2 |h2 <;> rw[h1,h2] <;> decide
  rcases this with e |e <;> rw[e]
  ·exact⟨_,rfl⟩
  ·exact⟨_,rfl⟩
 have r:0<=q % many:=ia _ ∅;have s:q % many<many:=gi _ I;have t:dJ dss.length (q % many)=↑(q % many).toNat:=tu r (by rw[hd];exact s);have V:(q % many).toNat<dss.length:=by lia
 have U:dss[(q % many).toNat]?=↑dss[(q % many).toNat]:=by simp[V]
 have b:cE (dss[(q % many).toNat].length+1):=few (by have:=a _ (gk V);lia);have u:0<=c / 30300 % (pool.length:Int):=ia _ ∅;have v:c / 30300 % (pool.length:Int)<(pool.length:Int):=gi _ ∅;have w:dJ pool.length (c / 30300 % (pool.length:Int))=↑(c / 30300 % (pool.length:Int)).toNat:=tu u v;have d:(c / 30300 % (pool.length:Int)).toNat<pool.length:=by lia
 have i:pool[(c / 30300 % (pool.length:Int)).toNat]?=↑pool[(c / 30300 % (pool.length:Int)).toNat]:=by simp[d]
 have f:cE pool.length:=few ∅;have sm:n8 (menu / 3):=qa ∅;refine⟨(q % many).toNat,(c / 30300 % (pool.length:Int)).toNat,pool[(c / 30300 % (pool.length:Int)).toNat],dss[(q % many).toNat],q % many,U,i,?_⟩;have x:(pool.eraseIdx (c / 30300 % (pool.length:Int)).toNat).map D.int=(pool.map D.int).eraseIdx (c / 30300 % (pool.length:Int)).toNat:=zN _ _ _;simp[pl,aZ,bV,bT,b3,L9,LA,sm,hq,I,t,U,w,i,b,f,m,zf,ri,dX,sD,x]
def ur(s:kf):kf:=match s.getLast? with
 |none=>[] |some x=>s.dropLast++[(x.1,x.2.1,x.2.2+1)]
def zP(s:kf)(x:Sk):ur (s++[x])=s++[(x.1,x.2.1,x.2.2+1)]:=by simp[ur]
def LG(s:i0)(x:D):cutD (s++[x]) none ↑((s.length:Int))=s:=by
 unfold cutD;rw[HT.sIx_none,HT.sIx_nat];simp
theorem LH(s:kf)(V:s.length<=1000):l0 [.lst (s.map sD)]=↑(.lst ((ur s).map sD)):=by
 rcases pk s with rfl | ⟨t,x,rfl⟩
 ·simp[l0,aR,yA,kr,ur]
 ·rw[pv] at V ⊢
  rw[zP];obtain⟨n,h,l⟩:=x;have I:(t++[((n,h,l):Sk)]).length=t.length+1:=by simp
  have Y:¬((t.length:Int)+1=0):=by lia
  have Z:bJ (t.map sD++[D.tup [↥n,↥h,↥l]]) ((t.length:Int))=↑(.tup [↥n,↥h,↥l]):=by
   unfold bJ;rw[tu ∅ (by rw[ak,ai,d5];lia)];simp
  have U:=LG (t.map sD) (D.tup [↥n,↥h,↥l]);rw[ai] at U;have a:cE (t.length+1):=few ∅;have b:(t.length:Int)+1-1=t.length:=by lia
  simp[l0,aR,yA,kr,Y,Z,U,a,b,sD,Dg,oG,oH]
structure fG (menu:Int) (many k:Nat) (sss:kl) (pool:g8):Prop where
 len:sss.length=many
 tot:sss.flatten.length=k
 good:∀x∈sss.flatten,i6 x/\(menu=3->x.2.2<=60)
 perm:(pool++sss.flatten.map (·.1)).Perm (eE 1 61)
variable{menu:Int}{many k:Nat}{sss:kl}{pool:g8}
protected def fG.pool(h:fG menu many k sss pool):pool.length+k=60:=by
 have:=h.perm.length_eq;rw[ak,ai,h.tot,wh] at this;exact this
variable{j:Nat}{s:kf}{l:Option Nat}
protected theorem fG.step{z D l:Int}(h:fG menu many k sss pool)(Y:sss[j]?=↑s)(U:pool[n]?=↑z)(I:1<=D/\D<=60/\0<=l/\l<=100/\(menu=3->l<=60)) :
  fG menu many (k+1) (sss.set j (s++[(z,D,l)])) (pool.eraseIdx n):=by
 have p1:=Df (x:=((z,D,l):Sk)) Y;have p2:=x3 U;have pp:((pool.eraseIdx n)++(sss.set j (s++[(z,D,l)])).flatten.map (·.1)).Perm (eE 1 61):=by
  refine .trans (ky _ (p1.map (·.1))) ?_;refine .trans ?_ h.perm;refine .trans ?_ (List.Perm.append_right _ p2.symm);exact lb
 refine⟨by rw[d7];exact h.len,by rw[p1.length_eq,bf,h.tot],λx Z=>?_,pp⟩;have hx':=p1.mem_iff.mp Z;rcases cf.mp hx' with rfl |hx'
 ·have a:z∈eE 1 61:=h.perm.mem_iff.mp (d8 _ (bn U))
  obtain⟨m,V,rfl⟩:=dz.mp a;have V:=ff.mp V;refine⟨⟨?_,?_,I.1,I.2.1,I.2.2.1,I.2.2.2.1⟩,I.2.2.2.2⟩
  ·show 1<=1+(m:Int);lia
  ·show 1+(m:Int)<=60;lia
 ·exact h.good x hx'
def fT(sss:kl):List i0:=sss.map λs=>s.map sD
def LI(sss:kl)(j:Nat)(s:kf)(x:Sk):(fT sss).set j (s.map sD++[sD x])=fT (sss.set j (s++[x])):=by
 unfold fT;simp
variable{ds:i0}
def LJ(h:(fT sss)[j]?=↑ds):∃s,sss[j]?=↑s/\ds=s.map sD:=by
 unfold fT at h;rw[bj] at h;cases q:sss[j]? with
 |none=>rw[q] at h;cases h
 |some s=>rw[q] at h;cases h;exact⟨s,rfl,rfl⟩
theorem LK(cs:g8)(v1 v3 G w Z a V Y:j0)(many:Nat)(menu turn:Int)(k:Nat)(sss:kl)(pool:g8)(r:0<=menu/\menu<4)(t:0<=turn/\turn<2)(H:k<14)(J:k+1<cs.length)(b:0<many)(h:fG menu many k sss pool) :
  ∃U I y d e f g,fG menu many (k+1) U I /\
   sF [!.lst (cs.map D.int),v1,!↥many,v3,!↥menu,!↥turn,↑(.o2 (fT sss)),↑(.ow (pool.map D.int)),!↥(0+k),w,Z,a,V,Y] =
   ↑(.nx,[!.lst (cs.map D.int),v1,!↥many,v3,!↥menu,!↥turn,↑(.o2 (fT U)),↑(.ow (I.map D.int)),!↥(0+k),y,d,e,f,g]):=by
 have A:=h.pool;obtain⟨c,hat⟩:∃c:Int,bJ (cs.map D.int) (1+(0+(k:Int)))=↑↥c:=by
  obtain⟨x,h1,h2⟩:=De (xs:=cs.map D.int) (i:=1+(0+(k:Int))) ∅ (by rw[ai];lia);rw[bj] at h2;cases q:cs[(1+(0+(k:Int))).toNat]? with
  |none=>rw[q] at h2;cases h2
  |some c=>rw[q] at h2;cases h2;exact⟨c,h1⟩
 obtain⟨u,l,B,C⟩:=LD ⇑(.lst (cs.map D.int)) v1 ⇑↥many v3 ↑(.o2 (fT sss)) ↑(.ow (pool.map D.int)) ⇑↥(0+k) Z a V Y menu turn c r t;have m:∀ds∈fT sss,ds.length<=1000:=λds hd=>by
  obtain⟨s,o,rfl⟩:=dz.mp hd;rw[ai];have:s.length<=sss.flatten.length:=(em o).length_le;rw[h.tot] at this
  lia
 obtain⟨j,n,z,ds,p,E,F,v⟩:=LF ⇑(.lst (cs.map D.int)) v1 v3 V Y many menu turn (0+k) c u l (fT sss) pool r t ∅ (by rw[fT,ai,h.len]) ∅ ∅ m;obtain⟨s,o,rfl⟩:=LJ E;rw[LI] at v;refine⟨_,_,!↥c,!↥u,!↥l,!↥p,!↥z,h.step o F B,?_⟩;rw[LC];simp only[aE,aG,aH,aD,fC,aB,iw,af,ah,ae,aj,cP,hat,ao,au,C,v]
structure jH (most:Nat) (ss:kl):Prop where
 many:ss.length<=5
 tot:ss.flatten.length<=most
 good:∀x∈ss.flatten,i6 x
 nd:(ss.flatten.map (·.1)).Nodup
theorem LL(i j:Int):(eE i j).Nodup:=by
 exact List.Pairwise.map _ (λa b h z=>h ∅) List.nodup_range
variable{most:Nat}
def fG.stk(h:fG menu many k sss pool)(D:many<=5)(I:k<=most):jH most sss :=
 ⟨by rw[h.len];exact D,by rw[h.tot];exact I,λx U=>(h.good x U).1,(ko.mp (h.perm.nodup_iff.mpr (LL 1 61))).2.1⟩
def LM(s:kf):(ur s).map (·.1)=s.map (·.1):=by
 rcases pk s with rfl | ⟨t,x,rfl⟩
 ·rfl
 ·rw[pv,zP];simp
theorem LN(s:kf)(h:∀x∈s,i6 x/\x.2.2<=60):∀x∈ur s,i6 x:=by
 rcases pk s with rfl | ⟨t,y,rfl⟩
 ·intro x hx;exact absurd hx (by simp[ur])
 ·rw[pv] at h ⊢
  rw[zP];intro x hx;rcases dc.mp hx with hx |hx
  ·exact(h x (d8 _ hx)).1
  ·rw[eh.mp hx]
   obtain⟨⟨a,b,c,d,e,f⟩,g⟩:=h y ⋯;exact⟨a,b,c,d,by show 0<=y.2.2+1;lia,by show y.2.2+1<=100;lia⟩
def zQ:∀(sss:kl),(sss.map ur).flatten.map (·.1)=sss.flatten.map (·.1)
 | []=>rfl |s::r=>by simp[LM,zQ r]
def fG.stkB(h:fG 3 many k sss pool)(U:many<=5)(V:k<=most):jH most (sss.map ur):=by
 have D:=h.stk U V;refine⟨by rw[ai];exact D.many,?_,λx I=>?_,by rw[zQ];exact D.nd⟩
 ·have:=congrArg List.length (zQ sss)
  simp only[ai] at this;rw[this];exact D.tot
 ·obtain⟨t,Y,I⟩:=fy.mp I
  obtain⟨s,Z,rfl⟩:=dz.mp Y;exact LN s (λy c=>by
   obtain⟨a,b⟩:=h.good y (fy.mpr ⟨s,Z,c⟩);exact⟨a,b rfl⟩) x I
def zR:lV [↥1,↥61]=↑((eE 1 61).map D.int):=by
 unfold lV;dsimp only;rw[ax ⟨⟨by decide,by decide⟩,⟨by decide,by decide⟩,⟨by decide,by decide⟩⟩]
def zS(ds:i0):mq (ij aC) [] ds=↑(ds.map λ_=>[]):=by
 have:=xn (te:=ij aC) (base:=[]) (λd:D=>d) (λ_=>([]:i0)) ds λx _=>⟨_,rfl⟩;simpa using this
theorem LO(cs:g8)(most:Nat)(hm:most<=14)(W:most+1<=cs.length):∃ss,jH most ss/\sG [.lst (cs.map D.int),↥most]=↑(.lst ((fT ss).map D.lst)):=by
 obtain⟨U,r,rfl⟩:∃U r,cs=U::r:=by
  cases cs with
  |nil=>simp at W |cons a r=>exact⟨a,r,rfl⟩
 have b:bJ (D.int U::r.map D.int) 0=↑↥U:=by
  unfold bJ;rw[tu ∅ (by simp only[bf];lia)];rfl
 obtain⟨R,q,X,aa⟩:=zO (U % 12) ∅ ∅;obtain⟨many,rfl⟩:∃n:Nat,R=n:=⟨R.toNat,by lia⟩;have V:(0:Int)<(most:Int)+1:=by lia
 have ab:0<=U / 12 % ((most:Int)+1):=ia _ ∅;have ac:U / 12 % ((most:Int)+1)<(most:Int)+1:=gi _ V;obtain⟨I,hcount⟩:∃n:Nat,(most:Int)-U / 12 % ((most:Int)+1)=n:=⟨((most:Int)-U / 12 % ((most:Int)+1)).toNat,by lia⟩;have B:I<=most:=by lia
 have c:0<=U / 180 % 4/\U / 180 % 4<4:=by lia
 have f:0<=U / 720 % 2/\U / 720 % 2<2:=by lia
 generalize Y:U / 180 % 4=menu at c;generalize Z:U / 720 % 2=turn at f;have t:=qh many ∅;have h:(bL 0 many).map (λ_=>([]:i0))=fT (List.replicate many []):=by
  unfold fT bL;simp[List.eq_replicate_iff]
 have j:cE (bL 0 many).length:=few (by rw[u4];lia);obtain⟨N,hN,hNle,hN0⟩:∃N:Nat,(I:Int)*(if (1:Int)<many then 1 else(many:Int))=N/\N<=most/\(many=0->N=0):=by
  by_cases h1:(1:Int)<many
  ·exact⟨I,by rw[ax h1];lia,B,λz=>by lia⟩
  ·rw[cb h1]
   have:many=0\/many=1:=by lia
   rcases this with rfl |rfl
   ·exact⟨0,by simp,by lia,λ_=>rfl⟩
   ·exact⟨I,by simp,B,λz=>by lia⟩
 have u:=qh N ∅;have s0:fG menu many 0 (List.replicate many []) (eE 1 61):=⟨by simp,by simp,λx hx=>by simp at hx,by simp⟩;have loop:=uk (i:=8) (g:=sF)
  (λk e=>∃(sss:kl) (pool:g8) (E F l m o p:j0),fG menu many k sss pool /\
    e=[!(.lst (D.int U::r.map D.int)),!↥most,!↥many,!↥I,!↥menu,!↥turn,↑(.o2 (fT sss)),↑(.ow (pool.map D.int)),E,F,l,m,o,p])
  (bL 0 N) _ ⟨List.replicate many [],eE 1 61,none,none,none,none,none,none,s0,rfl⟩ ?_
 ·obtain⟨e',h1,sss,pool,E,F,l,m,o,p,v,rfl⟩:=loop
  rw[u4] at v;have w:n8 (I:Int):=qa ∅;by_cases S:menu=3/\turn=1
  ·obtain⟨rfl,rfl⟩:=S
   refine⟨sss.map ur,v.stkB ∅ hNle,?_⟩;have hc:=vt (te:=e9 l0 (bc (aB 0) aC)) (base:=[]) (λs:kf=>D.lst (s.map sD)) (λs:kf=>D.lst ((ur s).map sD)) sss λs y=>by
    have G:s.length<=1000:=by
     have:s.length<=sss.flatten.length:=(em y).length_le;rw[v.tot] at this
     lia
    exact⟨_,by simp[LH s G];rfl⟩
   have H:cE sss.length:=few (by rw[v.len];lia);have J:qy cG (e9 l0 (bc (aB 0) aC)) [] ((fT sss).map D.lst)=↑((fT (sss.map ur)).map D.lst):=by
    unfold fT;rw[dq,dq,dq];exact hc
   have K:cE (fT sss).length:=by unfold fT;rw[ai];exact H
   refine kt (e':=?_) rfl ?_;rotate_left
   ·show zz [!(.lst (D.int U::r.map D.int)),!↥most,none,none,none,none,none,none,none,none,none,none,none,none]=_
    simp[zz,b,aZ,bV,bT,zM,l2,l3,q,V,Y,Z,hcount,t,xo,j,zS,h,zR,w,hN,u,h1,j7,K,J];rfl
  ·refine⟨sss,v.stk ∅ hNle,?_⟩
   by_cases T:menu=3
   ·have h4:¬turn=1:=λz=>S ⟨T,z⟩
    refine kt (e':=?_) rfl ?_;rotate_left
    ·show zz [!(.lst (D.int U::r.map D.int)),!↥most,none,none,none,none,none,none,none,none,none,none,none,none]=_
     simp[zz,b,aZ,bV,bT,zM,l2,l3,q,V,Y,Z,hcount,t,xo,j,zS,h,zR,w,hN,u,h1,h4];rfl
   ·refine kt (e':=?_) rfl ?_
    rotate_left
    ·show zz [!(.lst (D.int U::r.map D.int)),!↥most,none,none,none,none,none,none,none,none,none,none,none,none]=_
     simp[zz,b,aZ,bV,bT,zM,l2,l3,q,V,Y,Z,hcount,t,xo,j,zS,h,zR,w,hN,u,h1,T];rfl
 ·rintro k d e hd ⟨sss,pool,E,F,l,m,o,p,v,rfl⟩
  obtain⟨rfl,hk⟩:=uj hd;have L:0<many:=by
   rcases Nat.eq_zero_or_pos many with z |z
   ·have:=hN0 z;lia
   ·exact z
  obtain⟨C,A,w9,M,O,P,Q,y,he⟩:=LK (U::r) ⇑↥most ⇑↥I E F l m o p many menu turn k sss pool c f ∅ ∅ L v;exact⟨_,he,C,A,_,w9,M,O,P,Q,y,rfl⟩
def iT(xs:g8):D:=.tup (xs.map D.int)
variable{α:Type}
theorem md(f:α->D){xs:List α}{x:α}(h:xs[k]?=↑x):bJ (xs.map f) (k:Int)=↑(f x):=by
 have I:=(am.mp h).1;unfold bJ;rw[tu ∅ (by rw[ai];lia)];simp[h]
theorem LP(xs:g8)(Y:xs.length<=1000):yC [iT xs,iT xs]=↑(.bl true):=by
 obtain⟨e',h1,v2,rfl⟩:=uk (i:=2) (g:=sH) (λk e=>∃v2,e=[!iT xs,!iT xs,v2]) (bL 0 xs.length) [!iT xs,!iT xs,none] ⟨none,rfl⟩ (by
  rintro k d e hd ⟨v2,rfl⟩;obtain⟨rfl,U⟩:=uj hd;have V:bJ (xs.map D.int) (k:Int)=↑(.int xs[k]):=md D.int (by simp[U]);exact⟨[!iT xs,!iT xs,!↥(0+k)],by simp[sH,iT,V,zL],_,rfl⟩)
 have hi:=qh xs.length ∅;refine kt (e':=?w) rfl ?h;show yB [!iT xs,!iT xs,none]=_;have I:bW 2 sH (bL 0 xs.length) [!.tup (xs.map D.int),!.tup (xs.map D.int),none]=↑(.nx,[!.tup (xs.map D.int),!.tup (xs.map D.int),v2]):=h1;simp[yB,iT,hi,I];rfl
theorem LQ(f:α->g8)(xs:List α)(Y:xs.length<=1000)(I:∀x∈xs,(f x).length<=1000):sI [.lst (xs.map λx=>iT (f x)),.lst (xs.map λx=>iT (f x))]=↑(.bl true):=by
 obtain⟨e',h1,v2,rfl⟩:=uk (i:=2) (g:=yD) (λk e=>∃v2,e=[!(.lst (xs.map λx=>iT (f x))),!(.lst (xs.map λx=>iT (f x))),v2]) (bL 0 xs.length) [!(.lst (xs.map λx=>iT (f x))),!(.lst (xs.map λx=>iT (f x))),none] ⟨none,rfl⟩ (by
  rintro k d e hd ⟨v2,rfl⟩;obtain⟨rfl,D⟩:=uj hd;have U:bJ (xs.map λx=>iT (f x)) (k:Int)=↑(iT (f xs[k])):=md _ (by simp[D]);have V:=LP (f xs[k]) (I _ (gk D));exact⟨[!(.lst (xs.map λx=>iT (f x))),!(.lst (xs.map λx=>iT (f x))),!↥(0+k)],by simp[yD,U,V],_,rfl⟩)
 have hi:=qh xs.length ∅;refine kt (e':=?w) rfl ?h;show yE [!(.lst (xs.map λx=>iT (f x))),!(.lst (xs.map λx=>iT (f x))),none]=_;simp[yE,hi,h1];rfl
abbrev Bk:=Int×Int×Int
def aP(r:kf):Int:=(r.map (·.2.1)).sum
def bA(r:kf):Int:=(r.map (·.2.2)).sum
def bN(r:kf):Bk:=(r.length,aP r,bA r)
def jn(u b:Bk):Bk:=(u.1+b.1,u.2.1+b.2.1,u.2.2+b.2.2)
def gt(u b:Bk):Prop:=b.2.2*u.2.1<u.2.2*b.2.1
instance (u b:Bk):Decidable (gt u b):=inferInstanceAs (Decidable (_<_))
def hG(b:Bk):Prop:=n8 b.2.1/\n8 b.2.2
def LR(s:Sk):sy [sD s]=↑(sD (1,s.2.1,s.2.2)):=by
 rfl
def LS(u b:Bk):sA [sD u,sD b]=↑(sD (jn u b)):=by
 simp[sA,aR,DH,kr,sD,Dg,oG,oH,jn]
def LU(u b:Bk)(Z:hG u)(a:hG b):yb [sD u,sD b]=↑(.bl (decide (gt u b))):=by
 obtain⟨c,I,U⟩:=u;obtain⟨d,V,b3⟩:=b;have Y:∀x y z:Int,o_ [sD (x,y,z)]=↑(.tup [↥y,↥z]):=λx y z=>by simp[o_,aR,DI,kr,sD,oG,oH]
 have D:=DM I U V b3 Z.2 a.2;by_cases h1:b3*I<U*V
 ·rw[ax h1] at D
  simp[yb,aR,sB,kr,Y,D,gt,h1]
 ·rw[cb h1] at D
  by_cases h2:U*V<b3*I
  ·rw[ax h2] at D
   simp[yb,aR,sB,kr,Y,D,gt,h1]
  ·rw[cb h2] at D
   simp[yb,aR,sB,kr,Y,D,gt,h1]
def DO(bs:i0)(x:D):bJ (bs++[x]) (-1)=↑x:=Hr bs x
def ui(a b:kf):aP (a++b)=aP a+aP b:=by simp[aP]
def xp(a b:kf):bA (a++b)=bA a+bA b:=by simp[bA]
def LV(a b:kf):jn (bN a) (bN b)=bN (a++b):=by
 simp only[jn,bN,ui,xp,ak];simp
theorem yf(r:kf)(h:∀x∈r,i6 x):(r.length:Int)<=aP r/\aP r<=60*r.length/\0<=bA r/\bA r<=100*r.length:=by
 induction r with
 |nil=>simp[aP,bA] |cons x r ih =>
   obtain⟨h1,h2,D,I⟩:=ih λy U=>h y (ay _ U);obtain⟨_,_,V,Y,Z,a⟩:=h x bi;simp[aP,bA,gc] at h1 h2 D I ⊢
   lia
theorem mT(r:kf)(h:∀x∈r,i6 x)(D:r.length<=1000):hG (bN r):=by
 obtain⟨h1,h2,I,U⟩:=yf r h;exact⟨qa (by show -1000000000000<aP r/\aP r<1000000000000;lia),qa (by show -1000000000000<bA r/\bA r<1000000000000;lia)⟩
def o8:kl->kf->kl×kf
 | [],b=>([],b) |u::r,b=>if gt (bN u) (bN b) then(u::r,b) else o8 r (u++b)
def bD(r:kf):D:=sD (bN r)
def LW(I v2:j0)(bs:i0)(u b:kf):sC [I,↑(.ow (bs++[bD u])),v2,!bD b]=↑(.nx,[I,↑(.ow bs),v2,!bD (u++b)]):=by
 have e:=LS (bN u) (bN b);rw[LV] at e;simp[sC,bD,e]
theorem DQ(D v2:j0):∀(n:Nat) (I:kl) (b:kf),I.length<n->(∀r∈I,∀x∈r,i6 x)->(∀x∈b,i6 x)->(I.flatten.length+b.length<=1000) ->
  qm (dR (aJ (aD dU (ir 1) [:0])) (dS (aJ (e9 yb (bc (aH 1 (iN fO [:1])) (bc (aB 3) (aC))))))) sC n
   [D,↑(.ow (I.reverse.map bD)),v2,!bD b]=↑(.nx,[D,↑(.ow ((o8 I b).1.reverse.map bD)),v2,!bD (o8 I b).2])
 |n+1,[],b,_,_,_,_=>by simp[qm,o8] |n+1,u::r,b,h,hs,hb,hl=>by
   rw[de,ak] at hl;have U:yb [bD u,bD b]=↑(.bl (decide (gt (bN u) (bN b)))):=LU (bN u) (bN b) (mT u (hs u ⋯) ∅) (mT b hb ∅);have V:(0:Int)<(r.length:Int)+1:=by lia
   have Y:=LW D v2 (r.reverse.map bD) u b;unfold qm;rw[List.reverse_cons,bh,bq,di];by_cases h1:gt (bN u) (bN b)
   ·simp[o8,h1,U,V,DO]
   ·have c:=DQ D v2 n r (u++b) (by simpa using h) (λt Z=>hs t (by simp[Z])) (λx hx=>by
     rcases dc.mp hx with hx |hx
     ·exact hs u ⋯ x hx
     ·exact hb x hx) (by rw[ak];lia)
    have a:o8 (u::r) b=o8 r (u++b):=by simp[o8,h1]
    rw[a];have d:(dR (aJ (aD dU (ir 1) [:0])) (dS (aJ (e9 yb (bc (aH 1 (iN fO [:1])) (bc (aB 3) (aC)))))))
      [D,↑(.ow (r.reverse.map bD++[bD u])),v2,!bD b]=↑(true,[D,↑(.ow (r.reverse.map bD++[bD u])),v2,!bD b]):=by
     simp[h1,U,V,DO]
    grind
structure Good (r:kf):Prop where
 ne:r≠[]
 beg:∀p,p <+: r->bA p*aP r<=bA r*aP p
theorem DR(r:kf)(h:∀x∈r,i6 x):0<=aP r:=by have:=yf r h;lia
theorem wj(r:kf)(h:∀x∈r,i6 x)(D:r≠[]):0<aP r:=by
 have h1:=yf r h;have:0<r.length:=i7.mpr D
 lia
theorem zT{α:Type}:∀ {u b p:List α},p <+: u++b->p <+: u\/∃t,p=u++t/\t <+: b
 | [],b,p,h=>.inr ⟨p,rfl,h⟩ |a::u,b,[],h=>.inl List.nil_prefix |a::u,b,c::p,h=>by
   rw[lg,List.cons_prefix_cons] at h;obtain⟨rfl,h⟩:=h;rcases zT h with h | ⟨t,rfl,ht⟩
   ·grind
   ·exact .inr ⟨t,rfl,ht⟩
variable{b:Bk}
theorem Good.join{u b:kf}(I:Good u)(V:Good b)(Y:∀x∈u,i6 x)(Z:∀x∈b,i6 x)(h:¬gt (bN u) (bN b)):Good (u++b):=by
 have h':bA u*aP b<=bA b*aP u:=Int.not_lt.mp h;have d:=wj u Y I.ne;have c:=wj b Z V.ne;refine⟨by simp[I.ne],λp D=>?_⟩;rw[ui,xp];rcases zT D with D | ⟨t,rfl,ht⟩
 ·-- within u
  have h1:=I.beg p D;have pp:0<=aP p:=DR p λx U=>Y x (D.subset U);have k:bA p*aP u*(aP u+aP b)<=bA u*aP p*(aP u+aP b):=jb h1 ∅;have l:aP p*(bA u*aP b)<=aP p*(bA b*aP u):=vz h' pp;have e:bA p*(aP u+aP b)*aP u<=(bA u+bA b)*aP p*aP u:=by
   lia
  exact yy e d
 ·-- u and a beginning of b
  rw[ui,xp];have h1:=V.beg t ht;obtain⟨q,rfl⟩:=ht;rw[ui,xp] at h1 h' ⊢;rw[ui] at c;have f:0<=aP q:=DR q λx U=>Z x (cg _ U);have g:bA t*aP q<=bA q*aP t:=by
   have m:bA t*(aP t+aP q)=bA t*aP t+bA t*aP q:=wb _ _ _;have n:(bA t+bA q)*aP t=bA t*aP t+bA q*aP t:=wc _ _ _
   lia
  have o:bA u*(aP t+aP q)*aP q<=(bA t+bA q)*aP u*aP q:=jb h' f;have i:0<=aP u:=by lia
  have b3:aP u*(bA t*aP q)<=aP u*(bA q*aP t):=vz g i;have j:bA u*aP q*(aP t+aP q)<=bA q*aP u*(aP t+aP q):=by
   lia
  have r:bA u*aP q<=bA q*aP u:=yy j c;simp only[wb,wc]
  lia
def l4:kl->Prop
 | []=>True | [_]=>True |b::u::r=>gt (bN u) (bN b)/\l4 (u::r)
structure Runs (rs:kl) (s:kf):Prop where
 flat:rs.reverse.flatten=s
 good:∀r∈rs,Good r
 desc:l4 rs
theorem DS:∀(U:kl) (b:kf) (s:kf),Runs U s->Good b->(∀x∈s++b,i6 x)->Runs ((o8 U b).2::(o8 U b).1) (s++b)
 | [],b,s,h,gb,_=>by
   have:s=[]:=by have:=h.flat;simpa using this.symm
   subst this;exact⟨by simp[o8],λr I=>by simp[o8] at I;rw[I];exact gb,trivial⟩
 |u::r,b,s,h,gb,hx=>by
   have V:s=r.reverse.flatten++u:=by rw[<-h.flat];simp
   by_cases h1:gt (bN u) (bN b)
   ·have e:o8 (u::r) b=(u::r,b):=by simp[o8,h1]
    rw[e];refine⟨by simp[V],λt ht=>?_,h1,h.desc⟩;rcases cf.mp ht with rfl |ht
    ·exact gb
    ·exact h.good t ht
   ·have e:o8 (u::r) b=o8 r (u++b):=by simp[o8,h1]
    rw[e];have I:Runs r r.reverse.flatten:=⟨rfl,λt ht=>h.good t (ay _ ht),by
     have:=h.desc;cases r with
     |nil=>trivial |cons v r=>exact this.2⟩
    have Y:Good (u++b):=(h.good u ⋯).join gb (λx D=>hx x (by rw[V];simp[D])) (λx D=>hx x (by simp[D])) h1;have:=DS r (u++b) r.reverse.flatten I Y (λx D=>hx x (by rw[V];simpa[or_assoc] using D))
    grind
def LX(x:Sk)(h:i6 x):Good [x]:=⟨by simp,λp I=>by
 have:p=[]\/p=[x]:=by
  obtain⟨t,D⟩:=I;cases p with
  |nil=>exact .inl rfl |cons y q=>simp at D;simp[D]
 rcases this with rfl |rfl
 ·simp[bA,aP]
 ·exact Int.le_refl _⟩
def LY(x:Sk):sy [sD x]=↑(bD [x]):=by
 rw[LR];simp[bD,bN,aP,bA]
theorem LZ(S:D)(I:kl)(s:kf)(x:Sk)(v2 v3:j0)(h:Runs I s)(b:∀y∈s++[x],i6 y)(n:s.length<900) :
  ∃V d,Runs V (s++[x])/\sE [!S,↑(.ow (I.reverse.map bD)),!sD x,v3]=↑(.nx,[!S,↑(.ow (V.reverse.map bD)),!sD x,d]):=by
 have Y:I.flatten.length=s.length:=by
  rw[<-h.flat,jz,jz,vf,List.sum_reverse]
 have i:I.length<=s.length:=by
  rw[<-Y];have:∀(l:kl),(∀r∈l,r≠[])->l.length<=l.flatten.length:=λl=>by
   induction l with
   |nil=>intro _;simp
   |cons a l ih =>
     intro Z;have:=ih λr U=>Z r (ay _ U);have j:0<a.length:=i7.mpr (Z a bi)
     grind
  exact this I λr U=>(h.good r U).ne
 have k:=DQ ⇑S ⇑(sD x) 10000 I [x] ∅ (λr U y c=>b y (by
  rw[<-h.flat];exact d8 _ (fy.mpr ⟨r,by simpa using U,c⟩))) (λy c=>b y (by simp at c;simp[c])) (by rw[Y];simp;lia)
 have U:=DS I [x] s h (LX x (b x ⋯)) b;refine⟨_,!bD (o8 I [x]).2,U,?_⟩;have g:(o8 I [x]).1.length<=s.length:=by
  have e:=U.flat;have:∀(l:kl),(∀r∈l,r≠[])->l.length<=l.flatten.length:=λl=>by
   induction l with
   |nil=>intro _;simp
   |cons a l ih =>
     intro Z;have:=ih λr U=>Z r (ay _ U);have j:0<a.length:=i7.mpr (Z a bi);rw[bf,de,ak]
     lia
  have h2:=this _ λr f=>(U.good r f).ne;have o:(((o8 I [x]).2::(o8 I [x]).1).flatten).length=(s++[x]).length:=by
   rw[<-e,jz,jz,vf,List.sum_reverse]
  grind
 have m:cE ((o8 I [x]).1.length+1):=few ∅;unfold sE;simp only[aE,aG,e9,bc,aB,aC,af,ah,ae,aj,LY,ao,au,k,j1,qc,l_,ai,jy,m,d6];simp
theorem DT(s:kf)(Z:∀y∈s,i6 y)(c:s.length<=14):∃D,Runs D s/\y4 [.lst (s.map sD)]=↑(.lst (D.reverse.map bD)):=by
 obtain⟨e',h1,D,v2,v3,I,rfl⟩:=vp (i:=2) (g:=sE) sD (λp e=>∃D v2 v3,Runs D p/\e=[!.lst (s.map sD),↑(.ow (D.reverse.map bD)),v2,v3]) s
  [!.lst (s.map sD),↑(.ow []),none,none] ⟨[],none,none,⟨rfl,λr I=>by simp at I,trivial⟩,rfl⟩ (by
   rintro p x q e U ⟨D,v2,v3,I,rfl⟩;obtain⟨V,a,Y,b⟩:=LZ (.lst (s.map sD)) D p x v2 v3 I (λy hy=>Z y (by
    rw[U];rcases dc.mp hy with hy |hy
    ·simp[hy]
    ·simp at hy;simp[hy])) (by
    have:s.length=p.length+(q.length+1):=by rw[U];simp
    lia)
   exact⟨_,b,V,_,_,Y,rfl⟩)
 refine⟨D,I,?_⟩;refine kt (e':=[!.lst (s.map sD),!.lst (D.reverse.map bD),v2,v3]) rfl ?_;show y3 [!.lst (s.map sD),none,none,none]=_;simp[y3,h1]
theorem L_(a b c:i0):cutD (a++(b++c)) ↑((a.length:Int)) ↑((a.length:Int)+(b.length:Int))=b:=by
 unfold cutD;rw[HT.sIx_nat,show(a.length:Int)+(b.length:Int)=((a.length+b.length:Nat):Int) by lia,HT.sIx_nat];simp
def DV(f:α->Int)(r:List α):gF [.lst (r.map λx=>.int (f x))]=↑↥(r.map f).sum:=by
 have:(r.map λx=>D.int (f x))=(r.map f).map D.int:=by rw[dq];rfl
 rw[this];show(cO ((r.map f).map D.int)).map _=_;rw[vZ];rfl
def DW{α:Type}{ix:g7}{g:FS}(I:α->i0)(P:List α->aQ->Prop)(all:List α)(U:∀x∈all,(I x).length=ix.length)(V:∀(p:List α) (x:α) (q:List α) (e:aQ),all=p++x::q->P p e->∃e',g (ql ix (I x) e)=↑(.nx,e')/\P (p++[x]) e') :
  ∀(xs pre:List α) (e:aQ),all=pre++xs->P pre e->∃e',fX ix g (xs.map λx=>D.tup (I x)) e=↑(.nx,e')/\P all e'
 | [],pre,e,h,hp=>⟨e,rfl,by rw[h,c8];exact hp⟩ |x::xs,pre,e,h,hp=>by
   obtain⟨Y,h1,p1⟩:=V pre x xs e h hp;obtain⟨Z,h2,p2⟩:=DW I P all U V xs (pre++[x]) Y (by rw[h];simp) p1;have a:=U x (by rw[h];simp);exact⟨Z,by simp[fX,kX,a,h1,h2],p2⟩
variable{g:FS}
def xu{ix:g7}(I:α->i0)(P:List α->aQ->Prop)(all:List α)(e:aQ)(U:P [] e)(V:∀x∈all,(I x).length=ix.length)(Y:∀(p:List α) (x:α) (q:List α) (e:aQ),all=p++x::q->P p e->∃e',g (ql ix (I x) e)=↑(.nx,e')/\P (p++[x]) e') :
  ∃e',fX ix g (all.map λx=>D.tup (I x)) e=↑(.nx,e')/\P all e':=DW I P all V Y all [] e rfl U
def mU{α:Type}(f:α->D):∀(xs:List α) (c:Nat),qx c (xs.map f)=(xs.zipIdx c).map λp=>D.tup [↥(p.2:Nat),f p.1]
 | [],c=>rfl |x::xs,c=>by simp[qx,List.zipIdx_cons,mU f xs (c+1)]
def zU{α β:Type}(f:α->D)(g:β->D):∀(xs:List α) (ys:List β),eO (xs.map f) (ys.map g)=(xs.zip ys).map λp=>D.tup [f p.1,g p.2]
 | [],ys=>by simp[eO] |x::xs,[]=>by simp[eO] |x::xs,y::ys=>by simp[eO,zU f g xs ys]
theorem yi{u:Bk}(h:gt u b):¬gt b u:=λz=>by
 unfold gt at h z
 lia
variable{c:Bk}
theorem sZ{n:Bk}(U:0<n.2.1)(V:0<c.2.1)(D:0<b.2.1)(h1:gt n c)(h2:¬gt b c):gt n b:=by
 have h2:b.2.2*c.2.1<=c.2.2*b.2.1:=Int.not_lt.mp h2;have Y:b.2.2*c.2.1*n.2.1<=c.2.2*b.2.1*n.2.1:=jb h2 ∅;have Z:c.2.2*n.2.1*b.2.1<n.2.2*c.2.1*b.2.1:=yc h1 D;have I:b.2.2*n.2.1*c.2.1<n.2.2*b.2.1*c.2.1:=by
  lia
 exact yx I ∅
theorem Ma{n:Bk}(D:0<n.2.1)(U:0<c.2.1)(V:0<b.2.1)(h1:¬gt c n)(h2:gt c b):gt n b:=by
 have h1:c.2.2*n.2.1<=n.2.2*c.2.1:=Int.not_lt.mp h1;have Y:c.2.2*n.2.1*b.2.1<=n.2.2*c.2.1*b.2.1:=jb h1 ∅;have Z:b.2.2*c.2.1*n.2.1<c.2.2*b.2.1*n.2.1:=yc h2 D;have I:b.2.2*n.2.1*c.2.1<n.2.2*b.2.1*c.2.1:=by
  lia
 exact yx I ∅
def DX{n:Bk}(D:0<n.2.1)(I:0<c.2.1)(U:0<b.2.1)(h1:¬gt c n)(h2:¬gt b c):¬gt b n:=λz=>by
 have:=sZ (n:=b) (c:=n) (b:=c) U D I z h1;exact h2 this
abbrev Tn:=Nat×kf
abbrev kn:=List Tn
def cF(t:Tn):D:=.tup [↥(t.1:Int),↥(t.2.length:Int),↥(aP t.2),↥(bA t.2)]
def DY(t:Tn):wt [cF t]=↑(.tup [↥(aP t.2),↥(bA t.2)]):=by
 simp[wt,aR,DJ,kr,cF,Kr,Ks]
def fJ(a b:Tn):Bool:=not (decide (gt (bN b.2) (bN a.2)))
variable{b:kf}{a:Nat}
def Mb{a b:Tn}:fJ a b=true↔¬gt (bN b.2) (bN a.2):=by simp[fJ]
theorem Mc(t n:Tn)(D:hG (bN t.2))(I:hG (bN n.2)):∃z:Int,x9 [.tup [↥(aP t.2),↥(bA t.2)],.tup [↥(aP n.2),↥(bA n.2)]]=↑↥z/\decide (0<=z)=fJ t n:=by
 refine⟨_,DM _ _ _ _ D.2 I.2,?_⟩;show decide ((0:Int)<=if bA n.2*aP t.2<bA t.2*aP n.2 then 1 else if bA t.2*aP n.2<bA n.2*aP t.2 then -1 else 0)=not (decide (bA t.2*aP n.2<bA n.2*aP t.2))
 lia
def gY(ts:kn)(n:Tn):Nat:=(ts.takeWhile λt=>fJ t n).length
noncomputable def mV:FT:=dR (aJ (aD fB (aB 2) (ir 0))) (aJ (aD jN (e9 x9 (bc (e9 wt (bc (aH 0 (aB 2)) (aC))) (bc (e9 wt (bc (aB 1) (aC))) (aC)))) [:0]))
theorem DZ(n:Tn)(Z:hG (bN n.2)):∀(D pre:kn) (I:Nat),D.length<I->(∀t∈D,hG (bN t.2)) ->
  qm mV pa I [!.lst ((pre++D).map cF),!cF n,!↥(pre.length:Int)]=↑(.nx,[!.lst ((pre++D).map cF),!cF n,!↥((pre.length+gY D n:Nat):Int)])
 | [],pre,f+1,h,_=>by
   unfold qm mV;simp[gY]
 |t::r,pre,f+1,h,hs=>by
   obtain⟨z,b,hd⟩:=Mc t n (hs t ⋯) Z;have U:bJ ((pre++t::r).map cF) (pre.length:Int)=↑(cF t):=md cF ⋯;have V:(pre.length:Int)<((pre++t::r).map cF).length:=by simp;lia
   have c:mV [!(.lst ((pre++t::r).map cF)),!cF n,!↥(pre.length:Int)]=↑(fJ t n,[!(.lst ((pre++t::r).map cF)),!cF n,!↥(pre.length:Int)]):=by
    unfold mV;generalize (pre++t::r).map cF=L at U V;simp[V,U,DY,b,hd]
   unfold qm;rw[c,ae];cases hg:fJ t n with
   |false =>
     simp[gY,hg]
   |true =>
     rw[ax rfl];have d:pa [!(.lst ((pre++t::r).map cF)),!cF n,!↥(pre.length:Int)]=↑(.nx,[!(.lst ((pre++t::r).map cF)),!cF n,!↥((pre++[t]).length:Int)]):=by
      simp[pa]
     rw[d,ae];have a:=DZ n Z r (pre++[t]) f (by simpa using h) λt' Y=>hs t' (by simp[Y]);rw[cx,gm] at a;rw[a];have:(pre++[t]).length+gY r n=pre.length+gY (t::r) n:=by simp[gY,hg];lia
     rw[this]
theorem Md(ts:kn)(n:Tn)(D:hG (bN n.2))(I:∀t∈ts,hG (bN t.2))(U:ts.length<9000):yG [.lst (ts.map cF),cF n]=↑↥(gY ts n:Int):=by
 have h:=DZ n D ts [] 10000 ∅ I;refine kt (e':=[!.lst (ts.map cF),!cF n,!↥(gY ts n:Int)]) rfl ?_;show yF [!.lst (ts.map cF),!cF n,none]=_;have h':qm mV pa 10000 [!.lst (ts.map cF),!cF n,!↥0]=_:=h;unfold mV at h';simp[yF,h']
def ins(ts:kn)(n:Tn):kn:=(ts.takeWhile λt=>fJ t n)++n::ts.dropWhile λt=>fJ t n
theorem Me(ts:kn)(n:Tn):(ts.map cF).take (gY ts n)++cF n::(ts.map cF).drop (gY ts n)=(ins ts n).map cF:=by
 have e:=ku (p:=λt=>fJ t n) (l:=ts);have D:gY ts n=(ts.takeWhile λt=>fJ t n).length:=rfl;have h1:ts.take (gY ts n)=ts.takeWhile λt=>fJ t n:=by
  grind
 have h2:ts.drop (gY ts n)=ts.dropWhile λt=>fJ t n:=by
  grind
 rw[<-List.map_take,<-List.map_drop,h1,h2];simp[ins]
def Mf(ts:kn)(n:Tn):gY ts n<=ts.length:=(om _).length_le
theorem Mg(U v3 Z:j0)(ts:kn)(I:Nat)(r:kf)(a:hG (bN r))(b:∀t∈ts,hG (bN t.2))(c:ts.length<9000) :
  pb [U,↑(.ow (ts.map cF)),!↥(I:Int),v3,!↥(r.length:Int),!↥(aP r),!↥(bA r),Z] =
   ↑(.nx,[U,↑(.ow ((ins ts (I,r)).map cF)),!↥(I:Int),v3,!↥(r.length:Int),!↥(aP r),!↥(bA r),!(cF (I,r))]):=by
 have V:=Md ts (I,r) a b c;have Y:=Me ts (I,r);have h1:(gY ts (I,r):Int)<=((ts.map cF).length:Nat):=by rw[ai];have:=Mf ts (I,r);lia
 have h2:cE ((ts.map cF).length+1):=few (by rw[ai];lia);have d:D.tup [↥(I:Int),↥(r.length:Int),↥(aP r),↥(bA r)]=cF (I,r):=rfl;have e:(0:Int)<=(gY ts (I,r):Int):=by lia
 generalize ts.map cF=L at V Y h1 h2;simp[pb,wm,oD,rH,d,V,zc,mu,e,h1,h2,ft,Y]
def D_(a b:Tn):Prop:=gt (bN a.2) (bN b.2)\/(¬gt (bN b.2) (bN a.2)/\a.1<b.1)
def cN(ts:kn)(j:Nat):kl:=(ts.filter λt=>t.1==j+1).map (·.2)
structure aK (ss:kl) (ts:kn):Prop where
 lo:∀t∈ts,1<=t.1/\t.1<=ss.length
 good:∀t∈ts,Good t.2
 part:∀(j:Nat) (s:kf),ss[j]?=↑s->(cN ts j).flatten=s
 srt:ts.Pairwise D_
 perm:(ts.map (·.2)).flatten.Perm ss.flatten
variable{ss:kl}{ts:kn}
def aK.sk(h:aK ss ts)(D:∀x∈ss.flatten,i6 x):∀t∈ts,∀x∈t.2,i6 x:=λt I x U =>
 D x (h.perm.mem_iff.mp (fy.mpr ⟨t.2,dz.mpr ⟨t,I,rfl⟩,U⟩))
def aK.len1(h:aK ss ts):∀t∈ts,t.2.length<=ss.flatten.length:=λt D=>by
 rw[<-h.perm.length_eq];exact(em (dz.mpr ⟨t,D,rfl⟩)).length_le
theorem Ea{α:Type}:∀(l:List (List α)),(∀r∈l,r≠[])->l.length<=l.flatten.length
 | [],_=>by simp |a::l,h=>by
   have:=Ea l λr D=>h r (ay _ D);have I:0<a.length:=i7.mpr (h a bi);rw[bf,de,ak]
   lia
def aK.len(h:aK ss ts):ts.length<=ss.flatten.length:=by
 have:=Ea (ts.map (·.2)) λr D=>by
  obtain⟨t,I,rfl⟩:=dz.mp D;exact(h.good t I).ne
 rw[ai,h.perm.length_eq] at this;exact this
protected def aK.pos(h:aK ss ts)(I:∀x∈ss.flatten,i6 x):∀t∈ts,0<aP t.2:=λt D=>wj t.2 (h.sk I t D) (h.good t D).ne
def aK.sm(h:aK ss ts)(I:∀x∈ss.flatten,i6 x)(U:ss.flatten.length<=1000):∀t∈ts,hG (bN t.2):=λt D=>mT t.2 (h.sk I t D) (cy (h.len1 t D) U)
theorem aK.more(h:aK ss ts):aK (ss++[[]]) ts/\cN ts ss.length=[]:=by
 have e:cN ts ss.length=[]:=by
  unfold cN;rw[List.filter_eq_nil_iff.mpr λt I=>by have:=(h.lo t I).2;simp;lia];rfl
 refine⟨⟨λt I=>⟨(h.lo t I).1,by have:=(h.lo t I).2;simp;lia⟩,h.good,λj s D=>?_,h.srt,by simpa using h.perm⟩,e⟩;by_cases U:j<ss.length
 ·rw[bg U] at D
  exact h.part j s D
 ·have:j=ss.length:=by
   have:=(am.mp D).1;simp at this
   lia
  subst this;simp at D;subst D;rw[e];rfl
def Mh{ts:kn}{n t:Tn}:t∈ins ts n↔t∈ts\/t=n:=by
 unfold ins;have e:=ku (p:=λt=>fJ t n) (l:=ts);have D:t∈ts↔t∈(ts.takeWhile λt=>fJ t n)\/t∈ts.dropWhile λt=>fJ t n:=by
  conv=>lhs;rw[<-e]
  exact dc
 rw[D];simp[dc];constructor
 ·rintro(h |h |h)
  ·exact .inl (.inl h)
  ·exact .inr h
  ·exact .inl (.inr h)
 ·rintro((h |h) |h)
  ·exact .inl h
  ·exact .inr (.inr h)
  ·exact .inr (.inl h)
theorem aK.ins{ss:kl}{ts:kn}{pre r:kf}{p:kl}(h:aK (ss++[pre]) ts)(Y:cN ts ss.length=p)(n:Good r)(i:∀x∈r,i6 x)(w:∀x∈(ss++[pre]).flatten,i6 x)(hd:∀u∈p,gt (bN u) (bN r)):aK (ss++[pre++r]) (LB.ins ts (ss.length+1,r))/\cN (LB.ins ts (ss.length+1,r)) ss.length=p++[r]:=by
 have e:=ku (p:=λt=>fJ t (ss.length+1,r)) (l:=ts);have hA:∀t∈(ts.takeWhile λt=>fJ t (ss.length+1,r)),fJ t (ss.length+1,r)=true:=λt I=>by
  have:=List.all_takeWhile (p:=λt=>fJ t (ss.length+1,r)) (l:=ts);exact gl.mp this t I
 have pr:0<aP r:=wj r i n.ne;have D:=@Mh ts (ss.length+1,r);have k:∀U d,ts.dropWhile (λt=>fJ t (ss.length+1,r))=U::d->gt (bN r) (bN U.2):=λU d hb=>by
  have:fJ U (ss.length+1,r)=false:=by
   have:=List.head?_dropWhile_not (p:=λt=>fJ t (ss.length+1,r)) ts;rw[hb] at this;simpa using this
  unfold fJ at this;simpa using this
 unfold LB.ins at D ⊢;have srt:=h.srt;have pos:=h.pos w;have V:∀t∈ts,t.1=ss.length+1->gt (bN t.2) (bN r):=λt I Z=>hd t.2 (by
  rw[<-Y];exact dz.mpr ⟨t,ji.mpr ⟨I,by simp[Z]⟩,rfl⟩)
 have lo:=h.lo;have part:=h.part;have perm:=h.perm;rw[<-e] at srt pos V lo part perm Y;generalize (ts.takeWhile λt=>fJ t (ss.length+1,r))=A at *;generalize (ts.dropWhile λt=>fJ t (ss.length+1,r))=B at *;have o:∀b∈B,gt (bN r) (bN b.2):=λb hb=>by
  cases B with
  |nil=>simp at hb |cons U d =>
    have q:=k U d rfl;rcases cf.mp hb with rfl |hb'
    ·exact q
    ·have y:=(jt.mp srt).2.1
     have:=(gh.mp y).1 b hb';have C:¬gt (bN b.2) (bN U.2):=by
      rcases this with z |z
      ·exact yi z
      ·exact z.1
     exact sZ pr (pos U ⋯) (pos b (by simp[hb'])) q C
 have v:(B.filter λt=>t.1==ss.length+1)=[]:=List.filter_eq_nil_iff.mpr λt I=>by
  intro z;exact yi (o t I) (V t (by simp[I]) (by simpa using z))
 have of:cN (A++(ss.length+1,r)::B) ss.length=p++[r]:=by
  unfold cN at Y ⊢;rw[im,v,c8] at Y;rw[im,List.filter_cons_of_pos ⋯,v,bh,Y];rfl
 refine⟨⟨λt I=>?_,λt I=>?_,λj s f=>?_,?_,?_⟩,of⟩
 ·rcases(D.mp I) with z |z
  ·have:=h.lo t z;simp at this ⊢;lia
  ·subst z;simp
 ·rcases(D.mp I) with z |z
  ·exact h.good t z
  ·subst z;exact n
 ·by_cases c:j<ss.length
  ·rw[bg c] at f
   have:=part j s (by rw[bg c];exact f);rw[<-this];unfold cN;rw[im,im,List.filter_cons_of_neg (by simp;lia)]
  ·have:j=ss.length:=by
    have:=(am.mp f).1;simp at this
    lia
   subst this;have E:pre++r=s:=by simpa using f
   rw[of,<-E];have:=part ss.length pre ⋯;rw[show cN (A++B) ss.length=p from Y] at this;simp[this]
 ·have m:=jt.mp srt
  refine jt.mpr ⟨m.1,gh.mpr ⟨λb hb=>.inl (o b hb),m.2.1⟩,λa g b hb=>?_⟩;rcases cf.mp hb with rfl |hb
  ·have F:=hA a g
   by_cases Z:a.1=ss.length+1
   ·exact .inl (V a (by simp[g]) Z)
   ·have:=(lo a (by simp[g])).2
    exact .inr ⟨Mb.mp F,by simp at this ⊢;lia⟩
  ·exact m.2.2 a g b hb
 ·have Z:((A++(ss.length+1,r)::B).map (·.2)).flatten=(A.map (·.2)).flatten++(r++(B.map (·.2)).flatten):=by simp
  have G:(ss++[pre++r]).flatten=(ss++[pre]).flatten++r:=by simp
  rw[Z,G];have H:((A++B).map (·.2)).flatten=(A.map (·.2)).flatten++(B.map (·.2)).flatten:=by simp
  rw[H] at perm;refine List.Perm.trans ?_ (perm.append_right r);rw[cx];exact ky _ List.perm_append_comm
def zV:∀(D:kl),l4 D->(∀r∈D,0<aP r)->D.Pairwise (λb u=>gt (bN u) (bN b))
 | [],_,_=>.nil | [b],_,_=>by simp |b::u::r,h,hp=>by
   have U:=zV (u::r) h.2 λx I=>hp x (ay _ I);refine gh.mpr ⟨λx I=>?_,U⟩;rcases cf.mp I with rfl |hx'
   ·exact h.1
   ·have:=(gh.mp U).1 x hx'
    exact sZ (hp x (by simp[hx'])) (hp u ⋯) (hp b ⋯) this (yi h.1)
theorem Mi(S:D)(ss:kl)(s:kf)(ts:kn)(v4 v5 v6 n:j0)(h:aK ss ts)(A:∀x∈(ss++[s]).flatten,i6 x)(t:(ss++[s]).flatten.length<=14) :
  ∃I j k l c,aK (ss++[s]) I/\sJ [!S,↑(.ow (ts.map cF)),!↥((ss.length+1:Nat):Int),!.lst (s.map sD),v4,v5,v6,n] =
   ↑(.nx,[!S,↑(.ow (I.map cF)),!↥((ss.length+1:Nat):Int),!.lst (s.map sD),j,k,l,c]):=by
 have d:∀x∈s,i6 x:=λx hx=>A x (by simp[hx]);have v:s.length<=14:=by simp at t;lia
 obtain⟨Z,o,C⟩:=DT s d v;have U:=o.flat;have f:∀r∈Z.reverse,Good r:=λr h=>o.good r (vd.mp h);have i:∀r∈Z.reverse,∀x∈r,i6 x:=λr h x hx=>d x (by rw[<-U];exact fy.mpr ⟨r,h,hx⟩);have m:Z.reverse.Pairwise (λu b=>gt (bN u) (bN b)):=by
  rw[List.pairwise_reverse];exact zV Z o.desc λr h=>wj r (i r (vd.mpr h)) (o.good r h).ne
 have B:=h.more;obtain⟨e',h1,I,j,k,l,c,w,E,rfl⟩:=xu (ix:=[4,5,6]) (g:=pb) (λr:kf=>[D.int (r.length:Int),↥(aP r),↥(bA r)])
  (λp e=>∃I j k l c,aK (ss++[p.flatten]) I/\cN I ss.length=p/\e=[!S,↑(.ow (I.map cF)),!↥((ss.length+1:Nat):Int),!.lst (s.map sD),j,k,l,c]) Z.reverse
  [!S,↑(.ow (ts.map cF)),!↥((ss.length+1:Nat):Int),!.lst (s.map sD),v4,v5,v6,n] ⟨ts,v4,v5,v6,n,B.1,B.2,rfl⟩ (λ_ _=>rfl) (by
   rintro p r q e V ⟨I,j,k,l,c,ok,of,rfl⟩;have Y:r∈Z.reverse:=by rw[V];simp
   have a:∀x∈(ss++[p.flatten]).flatten,i6 x:=λx hx=>by
    rw[fm,dc] at hx;rcases hx with hx |hx
    ·exact A x (by rw[fm];exact d8 _ hx)
    ·refine d x ?_
     rw[<-U,V,fm];exact d8 _ (by simpa using hx)
   have F:(ss++[p.flatten]).flatten.length<=14:=by
    have:p.flatten.length<=s.length:=by rw[<-U,V,fm,ak];lia
    rw[fm,ak] at t ⊢;simp only[de,List.flatten_nil,c8] at t ⊢
    lia
   have y:∀u∈p,gt (bN u) (bN r):=λu G=>by
    rw[V] at m;exact(jt.mp m).2.2 u G r ⋯
   obtain⟨H,J⟩:=ok.ins of (f r Y) (i r Y) a y;have K:r.length<=14:=by
    have:r.length<=Z.reverse.flatten.length:=(em Y).length_le;rw[U] at this;lia
   have body:=Mg ⇑S ⇑(.lst (s.map sD)) c I (ss.length+1) r (mT r (i r Y) ∅) (ok.sm a ∅) (by have:=ok.len;lia);exact⟨_,body,_,_,_,_,_,by simpa using H,J,rfl⟩)
 refine⟨I,j,k,l,c,by rw[<-U];exact w,?_⟩;have z:fX [4,5,6] pb (Z.reverse.map bD) [!S,↑(.ow (ts.map cF)),!↥((ss.length+1:Nat):Int),!.lst (s.map sD),v4,v5,v6,n]=_:=h1;simp only[sJ,p8,cX,e9,bc,aB,aC,af,ah,ae,aj,C,z]
def aF(ss:kl):D:=.lst (ss.map λs=>D.lst (s.map sD))
def Mj(ss:kl):D.lst ((fT ss).map D.lst)=aF ss:=by unfold aF fT;rw[dq];rfl
theorem s_(ss:kl)(d:∀x∈ss.flatten,i6 x)(f:ss.flatten.length<=14):∃ts,aK ss ts/\va [aF ss]=↑(.lst (ts.map cF)):=by
 obtain⟨e',h1,ts,v2,v3,v4,v5,v6,I,ok,rfl⟩:=xu (ix:=[2,3]) (g:=sJ) (λp:kf×Nat=>[D.int (p.2:Int),D.lst (p.1.map sD)])
  (λp e=>∃ts v2 v3 v4 v5 v6 I,aK (p.map (·.1)) ts/\e=[!aF ss,↑(.ow (ts.map cF)),v2,v3,v4,v5,v6,I]) (ss.zipIdx 1)
  [!aF ss,↑(.ow []),none,none,none,none,none,none] ⟨[],none,none,none,none,none,none,⟨by simp,by simp,by simp,.nil,by simp⟩,rfl⟩ (λ_ _=>rfl) (by
   rintro p x q e U ⟨ts,v2,v3,v4,v5,v6,I,ok,rfl⟩;have Z:ss=p.map (·.1)++x.1::q.map (·.1):=by
    have:=congrArg (List.map (·.1)) U;simpa using this
   have a:x.2=(p.map (·.1)).length+1:=by
    have:(ss.zipIdx 1)[p.length]?=↑x:=by rw[U];simp
    rw[ju] at this;cases hs:ss[p.length]? with
    |none=>rw[hs] at this;cases this
    |some s =>
      rw[hs] at this;cases this;simp;lia
   have V:ss.flatten=(p.map (·.1)++[x.1]).flatten++(q.map (·.1)).flatten:=by rw[Z];simp
   obtain⟨b,i,j,k,l,c,Y⟩:=Mi (aF ss) (p.map (·.1)) x.1 ts v4 v5 v6 I ok (λy h=>d y (by rw[V];exact d8 _ h)) (by rw[V,ak] at f;lia);rw[<-a] at Y;exact⟨_,Y,b,_,_,_,_,_,_,by simpa using c,rfl⟩)
 refine⟨ts,by simpa using ok,?_⟩;refine kt (e':=[!aF ss,!.lst (ts.map cF),v2,v3,v4,v5,v6,I]) rfl ?_;show yH [!aF ss,none,none,none,none,none,none,none]=_;have Y:gX 1 [aF ss]=↑((ss.zipIdx 1).map λp=>D.tup [D.int (p.2:Int),D.lst (p.1.map sD)]):=by
  show ↑(qx 1 (ss.map λs=>D.lst (s.map sD)))=_;rw[mU]
 simp only[yH,aE,bM,ij,aC,ae,aj,ci,f9,d6,ao,au,p8,gq,bc,aB,af,ah,Y,h1,aM]
def jv(n:Nat)(ts:kn):kl:=(List.range n).map λj=>(cN ts j).flatten
def qj(n:Nat)(ts:kn):(jv n ts).length=n:=by simp[jv]
def ul(h:j<n):(jv n ts)[j]?=↑((cN ts j).flatten):=by simp[jv,h]
protected theorem aK.left(h:aK ss ts):jv ss.length ts=ss:=by
 apply eo;intro j;by_cases D:j<ss.length
 ·rw[ul D,h.part j ss[j] (by simp[D])]
  simp[D]
 ·rw[cq (by rw[qj];lia),cq ∅]
def mW(t:Tn)(ts:kn)(j:Nat)(h:t.1=j+1):cN (t::ts) j=t.2::cN ts j:=by
 unfold cN;rw[List.filter_cons_of_pos (by simp[h])];rfl
def pB(t:Tn)(ts:kn)(j:Nat)(h:t.1≠j+1):cN (t::ts) j=cN ts j:=by
 unfold cN;rw[List.filter_cons_of_neg (by simp[h])]
variable{t:Tn}
theorem Eb(h1:1<=t.1)(h2:t.1<=n):(jv n (t::ts))[t.1-1]?=↑(t.2++(cN ts (t.1-1)).flatten):=by
 rw[ul ∅,mW t ts (t.1-1) ∅];simp
theorem Ml(h1:1<=t.1)(h2:t.1<=n):jv n ts=(jv n (t::ts)).set (t.1-1) ((cN ts (t.1-1)).flatten):=by
 apply eo;intro j;by_cases D:j<n
 ·rw[jo,ul D,ul D,qj]
  by_cases e:t.1-1=j
  ·subst e
   simp[D]
  ·rw[cb e,pB t ts j ∅]
 ·rw[cq (by rw[qj];lia),cq (by rw[d7,qj];lia)]
theorem Ec(h1:1<=t.1)(h2:t.1<=n):jv n (t::ts)=(jv n ts).set (t.1-1) (t.2++(cN ts (t.1-1)).flatten):=by
 apply eo;intro j;by_cases D:j<n
 ·rw[jo,ul D,ul D,qj]
  by_cases e:t.1-1=j
  ·subst e
   rw[mW t ts (t.1-1) ∅];simp[D]
  ·rw[cb e,pB t ts j ∅]
 ·rw[cq (by rw[qj];lia),cq (by rw[d7,qj];lia)]
def tp{α:Type}:∀ {l:List (List α)} {j:Nat} {s x:List α},l[j]?=↑s->(l.set j (x++s)).flatten.Perm (x++l.flatten)
 |a::l,0,s,x,h=>by
   simp at h;subst h;simp
 |a::l,j+1,s,x,h=>by
   have D:=tp (l:=l) (j:=j) (s:=s) (x:=x) (by simpa using h);simp;refine(D.append_left a).trans ?_;rw[<-cx,<-cx];exact List.perm_append_comm.append_right _
theorem zW{n:Nat}:∀ {ts:kn},(∀t∈ts,1<=t.1/\t.1<=n)->(ts.map (·.2)).flatten.Perm (jv n ts).flatten
 | [],_=>by
   have:(jv n []).flatten=[]:=by simp[jv,cN]
   rw[this];exact .nil
 |t::ts,h=>by
   have D:=zW (n:=n) (ts:=ts) λt' I=>h t' (ay _ I);obtain⟨h1,h2⟩:=h t bi;rw[Ec h1 h2,bq,de];exact(D.append_left t.2).trans (tp (ul ∅)).symm
def aK.tail(h:aK (jv n (t::ts)) (t::ts)):aK (jv n ts) ts:=by
 have lo:∀t'∈ts,1<=t'.1/\t'.1<=n:=λt' D=>by
  have:=h.lo t' (ay _ D);rw[qj] at this;exact this
 refine⟨λt' D=>by rw[qj];exact lo t' D,λt' D=>h.good t' (ay _ D),λj s I=>?_,(gh.mp h.srt).2,zW lo⟩;have U:=(am.mp I).1;rw[qj] at U;rw[ul U] at I;exact b9 I
def Mm(a b:i0):cutD (a++b) none ↑(a.length:Int)=a:=by
 unfold cutD;rw[HT.sIx_none,HT.sIx_nat];simp
def zX(a b:i0):cutD (a++b) ↑(a.length:Int) none=b:=by
 unfold cutD;rw[HT.sIx_none,HT.sIx_nat];simp
variable{ar:Nat}{e':aQ}
def t4{I:i0}(h:ds.length=ar)(U:g (kr n ds)=↑(.rf I,e')):fW n ar g ds=↑I:=by
 unfold fW;rw[ax h,U]
theorem Mn(ss:kl)(U:ss.length<=1000):yM [aF ss]=↑(ss.map λs=>D.lst (s.map sD)):=by
 have c:=vt (te:=aL (gq tf (bc (aB 0) (aC)))) (base:=[]) (λs:kf=>D.lst (s.map sD)) (λs:kf=>D.lst (s.map sD)) ss λs _=>⟨_,by simp;rfl⟩;have I:cE ss.length:=few ∅;refine t4 (e':=[!aF ss]) rfl ?_;show yL [!(.lst (ss.map λs:kf=>D.lst (s.map sD)))]=_;simp[yL,j7,I,c];rfl
theorem Mp(ss:kl)(a:ss.length<=1000)(V:∀s∈ss,s.length<=1000):yK [aF ss,aF ss]=↑(.bl true):=by
 obtain⟨e',h1,v2,rfl⟩:=uk (i:=2) (g:=yI) (λk e=>∃v2,e=[!aF ss,!aF ss,v2]) (bL 0 ss.length) [!aF ss,!aF ss,none] ⟨none,rfl⟩ (by
  rintro k d e hd ⟨v2,rfl⟩;obtain⟨rfl,U⟩:=uj hd;have Y:bJ (ss.map λs=>D.lst (s.map sD)) (k:Int)=↑(.lst (ss[k].map sD)):=md (λs:kf=>D.lst (s.map sD)) (by simp[U]);have Z:=LQ (λs:Sk=>[s.1,s.2.1,s.2.2]) ss[k] (V _ (gk U)) (λ_ _=>by simp);have I:sI [.lst (ss[k].map sD),.lst (ss[k].map sD)]=↑(.bl true):=Z;exact⟨[!aF ss,!aF ss,!↥(0+k)],by simp[yI,aF,Y,I],_,rfl⟩)
 have hi:=qh ss.length ∅;refine kt (e':=[!aF ss,!aF ss,v2]) rfl ?_;show yJ [!aF ss,!aF ss,none]=_;unfold aF at h1 ⊢;simp[yJ,hi,h1]
theorem Mq(xs:g8)(V:xs.length<=1000):yU [.lst (xs.map D.int),.lst (xs.map D.int)]=↑(.bl true):=by
 obtain⟨e',h1,v2,rfl⟩:=uk (i:=2) (g:=yS) (λk e=>∃v2,e=[!.lst (xs.map D.int),!.lst (xs.map D.int),v2]) (bL 0 xs.length) [!.lst (xs.map D.int),!.lst (xs.map D.int),none] ⟨none,rfl⟩ (by
  rintro k d e hd ⟨v2,rfl⟩;obtain⟨rfl,I⟩:=uj hd;have U:bJ (xs.map D.int) (k:Int)=↑(.int xs[k]):=md D.int (by simp[I]);exact⟨[!.lst (xs.map D.int),!.lst (xs.map D.int),!↥(0+k)],by simp[yS,U,zL],_,rfl⟩)
 have hi:=qh xs.length ∅;refine kt (e':=[!.lst (xs.map D.int),!.lst (xs.map D.int),v2]) rfl ?_;show yT [!.lst (xs.map D.int),!.lst (xs.map D.int),none]=_;simp[yT,hi,h1]
def hT:kl->Bk
 | []=>(0,1,-1) |r::_=>bN r
def kD(b:Bk):D:=.lst [↥b.1,↥b.2.1,↥b.2.2]
variable{r:kf}{q:g7}
theorem Mr{q:kf}(h1:gt (bN r) (bN b))(h2:gt (bN r) (bN q)):gt (bN r) (bN (b++q)):=by
 have h1:bA b*aP r<bA r*aP b:=h1;have h2:bA q*aP r<bA r*aP q:=h2;show bA (b++q)*aP r<bA r*aP (b++q);rw[xp,ui,wc,wb]
 lia
theorem Ed{r:kf}(pr:0<aP r):∀(rest:kl) (q:kf),(∀b∈rest,gt (bN r) (bN b))->(∀b∈rest,Good b)->(∀b∈rest,∀x∈b,i6 x)->q <+: rest.flatten->q≠[]->gt (bN r) (bN q)
 | [],q,_,_,_,hq,ne=>by simp at hq;exact absurd hq ne |b::rest,q,hd,hg,hs,hq,ne=>by
   have I:=hg b ⋯;have U:=hs b ⋯;rcases zT hq with hq | ⟨q',rfl,hq'⟩
   ·have sq:∀x∈q,i6 x:=λx Y=>U x (hq.subset Y)
    refine sZ pr (wj b U I.ne) (wj q sq ne) (hd b ⋯) ?_;have:=I.beg q hq;show ¬(bA b*aP q<bA q*aP b)
    lia
   ·by_cases V:q'=[]
    ·subst V
     rw[c8];exact hd b ⋯
    ·exact Mr (hd b ⋯) (Ed pr rest q' (λc D=>hd c (by simp[D])) (λc D=>hg c (by simp[D])) (λc D=>hs c (by simp[D])) hq' V)
def Ms(D:k<s.length):aP (s.take (k+1))=aP (s.take k)+s[k].2.1/\bA (s.take (k+1))=bA (s.take k)+s[k].2.2:=by
 rw[km D,ui,xp];simp[aP,bA]
theorem Mt(D:∀x∈s,i6 x)(U:s.length<=14)(k:Nat):0<=aP (s.take k)/\aP (s.take k)<=840/\0<=bA (s.take k)/\bA (s.take k)<=1400:=by
 have:=yf (s.take k) λx I=>D x (List.mem_of_mem_take I);have h2:(s.take k).length<=14:=by rw[fo];lia
 lia
theorem Mu(U:kl)(hd:U.Pairwise λu b=>gt (bN u) (bN b))(J:∀r∈U,Good r)(l:∀x∈U.flatten,i6 x)(K:U.flatten.length<=14):pf [.lst (U.flatten.map sD)]=↑(kD (hT U)):=by
 cases U with
 |nil=>simp[pf,aR,sL,kr,hT,kD,qh 0 ∅,bL,bW,show eV [↥0]=↑(bL 0 0) from qh 0 ∅] |cons r rest =>
   have p:(r::rest).flatten=r++rest.flatten:=de ..;rw[p] at l K ⊢;have t:=J r ⋯;have L:∀x∈r,i6 x:=λx v=>l x (by simp[v]);have pr:=wj r L t.ne;have R:=yf r L;have w:=(gh.mp hd).1;generalize c:r++rest.flatten=s at *;have y:r.length<=s.length:=by rw[<-c];simp
   have tk:∀k,k<=r.length->s.take k <+: r:=λk m=>by
    rw[<-c,jd m];exact List.take_prefix _ _
   obtain⟨e',h1,S,v4,rfl,V,Y⟩:=uk (i:=4) (g:=pc) (λk e=>∃(b:Bk) (v4:j0),e=[!.lst (s.map sD),!kD b,!↥(aP (s.take k)),!↥(bA (s.take k)),v4] /\
     (k<r.length->b=(0,1,-1)\/∃q,q <+: r/\b=bN q)/\(r.length<=k->b=bN r)) (bL 0 s.length)
    [!.lst (s.map sD),!(kD (0,1,-1)),!↥0,!↥0,none] ⟨(0,1,-1),none,by simp[aP,bA],λ_=>.inl rfl,λh=>absurd (List.length_eq_zero_iff.mp (Nat.le_zero.mp h)) t.ne⟩ (by
     rintro k d e A ⟨b,v4,rfl,V,Y⟩;obtain⟨rfl,m⟩:=uj A;obtain⟨n,o⟩:=Ms m;have T:=Mt l K (k+1);have M:bJ (s.map sD) (0+(k:Int))=↑(sD s[k]):=by rw[i5];exact md sD (by simp[m])
     have D:n8 (aP (s.take (k+1))):=qa ∅;have I:n8 (bA (s.take (k+1))):=qa ∅;have N:cV (sD s[k]) ↥1=↑(.int s[k].2.1):=rfl;have O:cV (sD s[k]) ↥2=↑(.int s[k].2.2):=rfl;have B:pc [!.lst (s.map sD),!kD b,!↥(aP (s.take k)),!↥(bA (s.take k)),!↥(0+(k:Int))] =
       ↑(.nx,[!.lst (s.map sD),!(kD (if b.2.2*aP (s.take (k+1))<=bA (s.take (k+1))*b.2.1 then bN (s.take (k+1)) else b)),!↥(aP (s.take (k+1))),!↥(bA (s.take (k+1))),!↥(0+(k:Int))]):=by
      have j:((s.take (k+1)).length:Int)=0+(k:Int)+1:=by rw[fo];lia
      by_cases f:b.2.2*aP (s.take (k+1))<=bA (s.take (k+1))*b.2.1
      ·rw[ax f,show bN (s.take (k+1))=(0+(k:Int)+1,aP (s.take (k+1)),bA (s.take (k+1))) by unfold bN;rw[j]]
       rw[n] at D;rw[o] at I;rw[n,o] at f ⊢;simp only[pc,kD,aE,aG,bZ,aU,aD,aB,aH,cP,fC,aJ,aL,ij,bc,aC,af,ah,ae,aj,ao,au,M,N,O,iw,oG,oH,wf I,rJ D,jN,il f,d6,bf,ci,show(0+1+1+1<=64)=True by simp]
      ·rw[cb f]
       rw[n] at D;rw[o] at I;rw[n,o] at f ⊢;simp only[pc,kD,aE,aG,bZ,aU,aD,aB,aH,cP,fC,aJ,aL,ij,bc,aC,af,ah,ae,aj,ao,au,M,N,O,iw,oG,oH,wf I,rJ D,jN,dw f,du,ig]
     refine⟨_,B,_,_,rfl,λZ=>?_,λP=>?_⟩
     ·split
      ·exact .inr ⟨_,tk (k+1) ∅,rfl⟩
      ·exact V ∅
     ·by_cases C:r.length<=k
      ·have a:=Y C
       subst a;rw[cb];have E:s.take (k+1)=r++rest.flatten.take (k+1-r.length):=by
        rw[<-c,List.take_append,jf ∅]
       have F:(rest.flatten.take (k+1-r.length))≠[]:=by
        intro z;have:=congrArg List.length z;rw[fo] at this;have Q:s.length=r.length+rest.flatten.length:=by rw[<-c,ak]
        simp only[ci] at this
        lia
       have Z:=Ed pr rest _ w (λb a=>J b (by simp[a])) (λb a x v=>l x (by rw[<-c];exact cg _ (fy.mpr ⟨b,a,v⟩))) (List.take_prefix (k+1-r.length) rest.flatten) F;rw[E,ui,xp];have Z:bA (rest.flatten.take (k+1-r.length))*aP r<bA r*aP (rest.flatten.take (k+1-r.length)):=Z;show ¬(bA r*(aP r+aP _)<=(bA r+bA _)*aP r);rw[wb,wc]
       lia
      ·have G:k+1=r.length:=by lia
       have E:s.take (k+1)=r:=by rw[G,<-c];exact yw
       rw[E,ax];rcases V ∅ with rfl | ⟨q,F,rfl⟩
       ·show -1*aP r<=bA r*1
        lia
       ·exact t.beg q F)
   rw[u4,List.take_length] at h1;have a:=Y (by rw[u4];exact y);subst a;have hi:eV [↥(s.length:Int)]=↑(bL 0 s.length):=qh s.length ∅;refine kt (e':=[!.lst (s.map sD),!kD (bN r),!↥(aP s),!↥(bA s),v4]) rfl ?_;show sL [!.lst (s.map sD),none,none,none,none]=_;have H:kD (0,1,-1)=.lst [↥0,↥1,↥(-1)]:=rfl;rw[H] at h1;simp[sL,hi,h1];rfl
def zY(h:r∈cN ts j):(j+1,r)∈ts:=by
 obtain⟨t,D,rfl⟩:=dz.mp h;obtain⟨h1,h2⟩:=ji.mp D;have:t.1=j+1:=by simpa using h2
 rw[<-this];exact h1
theorem Mv(h:ts.Pairwise D_):(cN ts j).Pairwise λu b=>gt (bN u) (bN b):=by
 unfold cN;rw[List.pairwise_map,List.pairwise_filter];refine h.imp λ{a b} hab ha hb=>?_;rcases hab with z |z
 ·exact z
 ·have h1:a.1=j+1:=by simpa using ha
  have h2:b.1=j+1:=by simpa using hb
  lia
def tq(n:Nat)(ts:kn):List Bk:=(List.range n).map λj=>hT (cN ts j)
def zZ(h:j<n):(tq n ts)[j]?=↑(hT (cN ts j)):=by simp[tq,h]
theorem t6(ok:aK (jv n (t::ts)) (t::ts)):hT (cN (t::ts) (t.1-1))=bN t.2:=by
 have h1:=(ok.lo t ⋯).1;rw[mW t ts (t.1-1) ∅];rfl
theorem Ee(ok:aK (jv n (t::ts)) (t::ts))(D:∀x∈(jv n (t::ts)).flatten,i6 x)(j:Nat) :
  ¬gt (hT (cN (t::ts) j)) (bN t.2)/\(j<t.1-1->gt (bN t.2) (hT (cN (t::ts) j))):=by
 have pt:=ok.pos D t ⋯;have st:=yf t.2 (ok.sk D t ⋯);cases h:cN (t::ts) j with
 |nil =>
   have g:gt (bN t.2) (0,1,-1):=by
    show -1*aP t.2<bA t.2*1
    lia
   exact⟨yi g,λ_=>g⟩
 |cons r rest =>
   have hm:(j+1,r)∈t::ts:=zY (by rw[h];simp);rcases cf.mp hm with e |hm
   ·subst e
    exact⟨λz=>yi z z,λz=>by simp at z⟩
   ·have I:=(gh.mp ok.srt).1 _ hm
    rcases I with z | ⟨z,z'⟩
    ·exact⟨yi z,λ_=>z⟩
    ·exact⟨z,λw=>by simp at z';lia⟩
def Mw(n:Nat)(ts:kn):(jv n ts).map (λs=>D.lst (s.map sD))=(List.range n).map λj=>D.lst ((cN ts j).flatten.map sD):=by
 unfold jv;rw[dq];rfl
def Mx(h:j<n):∀x∈(cN ts j).flatten,x∈(jv n ts).flatten:=λx D =>
 fy.mpr ⟨_,bn (ul (ts:=ts) h),D⟩
def My(h:j<n):(cN ts j).flatten.length<=(jv n ts).flatten.length :=
 (em (bn (ul (ts:=ts) h))).length_le
theorem Ef(ok:aK (jv n ts) ts)(D:∀x∈(jv n ts).flatten,i6 x)(I:(jv n ts).flatten.length<=14)(j:Nat):hG (hT (cN ts j)):=by
 cases h:cN ts j with
 |nil=>exact⟨qa (by decide),qa (by decide)⟩ |cons r rest=>exact ok.sm D ∅ (j+1,r) (zY (by rw[h];simp))
def Mz(H:List Bk)(V v1 v2:j0)(k p:Nat)(bk D:Bk)(d:H[k]?=↑bk)(e:H[p]?=↑D)(sk:hG bk)(sp:hG D) :
  mO [V,v1,v2,!.lst (H.map kD),!↥(p:Int),!↥(0+(k:Int))] =
   ↑(.nx,[V,v1,v2,!.lst (H.map kD),!↥((if gt bk D then k else p:Nat):Int),!↥(0+(k:Int))]):=by
 rw[i5];have Y:bJ (H.map kD) (k:Int)=↑(kD bk):=md kD d;have Z:bJ (H.map kD) (p:Int)=↑(kD D):=md kD e;have a:∀b:Bk,cV (kD b) ↥1=↑↥b.2.1:=λ_=>rfl;have c:∀b:Bk,cV (kD b) ↥2=↑↥b.2.2:=λ_=>rfl;by_cases U:gt bk D
 ·have I:D.2.2*bk.2.1<bk.2.2*D.2.1:=U
  rw[ax U];simp only[mO,bZ,aG,aU,aJ,aD,aH,cP,aB,fC,af,ah,ae,aj,ao,au,Y,Z,a,c,wf sk.2,wf sp.2,dU,il I,d6]
 ·have I:¬D.2.2*bk.2.1<bk.2.2*D.2.1:=U
  rw[cb U];simp only[mO,bZ,aG,aU,aJ,aD,aH,cP,aB,fC,af,ah,ae,aj,ao,au,Y,Z,a,c,wf sk.2,wf sp.2,dU,dw I,du,ig]
theorem M0(ok:aK (jv n (t::ts)) (t::ts))(Y:∀x∈(jv n (t::ts)).flatten,i6 x)(j:(jv n (t::ts)).flatten.length<=14)(V v1 v2 v5:j0) :
  ∃I,bW 5 mO (bL 0 n) [V,v1,v2,!(.lst ((tq n (t::ts)).map kD)),!↥0,v5] =
   ↑(.nx,[V,v1,v2,!(.lst ((tq n (t::ts)).map kD)),!↥((t.1-1:Nat):Int),I]):=by
 have lo:=ok.lo t ⋯;rw[qj] at lo;have Z:t.1-1<n:=by lia
 obtain⟨e',h1,p,I,rfl,_,U,D⟩:=uk (i:=5) (g:=mO) (λk e=>∃(p:Nat) (v5:j0),e=[V,v1,v2,!(.lst ((tq n (t::ts)).map kD)),!↥(p:Int),v5]/\p<n/\(k<=t.1-1->p<=t.1-1/\(p<k\/p=0))/\(t.1-1<k->p=t.1-1))
  (bL 0 n) [V,v1,v2,!(.lst ((tq n (t::ts)).map kD)),!↥0,v5] ⟨0,v5,rfl,by lia,λ_=>⟨f9 _,.inr rfl⟩,λh=>absurd h (Nat.not_lt_zero _)⟩ (by
    rintro k d e a ⟨p,v5,rfl,hpn,U,D⟩;obtain⟨rfl,l⟩:=uj a;have body:=Mz (tq n (t::ts)) V v1 v2 k p _ _ (zZ l) (zZ hpn) (Ef ok Y j k) (Ef ok Y j p);refine⟨_,body,_,_,rfl,?_,λm=>?_,λb=>?_⟩
    ·split <;> lia
    ·have:=U ∅
     split
     ·exact⟨by lia,.inl ∅⟩
     ·exact⟨this.1,by lia⟩
    ·rcases Nat.lt_or_eq_of_le (Nat.le_of_lt_succ b) with hlt' |heq
     ·have c:=D hlt'
      subst c;rw[t6 ok,cb (Ee ok Y k).1]
     ·have:=U ∅
      subst heq;rw[t6 ok];by_cases f:p=t.1-1
      ·subst f
       rw[t6 ok,cb (λz=>yi z z)]
      ·rw[ax ((Ee ok Y p).2 ∅)])
 rw[u4] at D;have c:=D Z;subst c;exact⟨I,h1⟩
noncomputable def tE:FT:=aJ (aD dU (e9 gF (bc (aL (j7 (kY 1) [] cG (ir 0))) (aC))) [:0])
theorem M3(ok:aK (jv n (t::ts)) (t::ts))(i:∀x∈(jv n (t::ts)).flatten,i6 x)(k:(jv n (t::ts)).flatten.length<=14)(E:n<=1000)(a v3 v4 v5:j0)(M:i0)(F:M.length<=1000) :
  ∃l m b,sM [a,↑(.ow ((jv n (t::ts)).map λs=>D.lst (s.map sD))),↑(.ow M),v3,v4,v5]=↑(.nx,[a,↑(.ow ((jv n ts).map λs=>D.lst (s.map sD))),↑(.ow (M++[cF t])),l,m,b]):=by
 have lo:=ok.lo t ⋯;rw[qj] at lo;have c:=vt (te:=e9 pf (bc (aB 0) (aC))) (base:=[]) (λj:Nat=>D.lst ((cN (t::ts) j).flatten.map sD)) (λj:Nat=>kD (hT (cN (t::ts) j))) (List.range n) (λj Z=>by
  have Z:j<n:=ff.mp Z;have o:=Mu (cN (t::ts) j) (Mv ok.srt) (λr p=>ok.good _ (zY p)) (λx q=>i x (Mx Z x q)) (cy (My Z) k);refine⟨[!(.lst ((cN (t::ts) j).flatten.map sD))],?_⟩;simp only[e9,bc,aB,aC,af,ae,o,aj])
 have u:(List.range n).map (λj:Nat=>kD (hT (cN (t::ts) j)))=(tq n (t::ts)).map kD:=by unfold tq;rw[dq];rfl
 rw[u,<-Mw] at c;obtain⟨b,v⟩:=M0 ok i k a ↑(.ow ((jv n (t::ts)).map λs=>D.lst (s.map sD))) ↑(.ow M) v5;have d:bJ ((tq n (t::ts)).map kD) ((t.1-1:Nat):Int)=↑(kD (bN t.2)):=by
  rw[<-t6 ok];exact md kD (zZ ∅)
 have V:=Eb (ts:=ts) lo.1 lo.2;have Y:=Ml (ts:=ts) lo.1 lo.2;have e:bJ ((jv n (t::ts)).map λs=>D.lst (s.map sD)) ((t.1-1:Nat):Int)=↑(.lst ((t.2++(cN ts (t.1-1)).flatten).map sD)):=md (λs:kf=>D.lst (s.map sD)) V;have I:=zX (t.2.map sD) ((cN ts (t.1-1)).flatten.map sD);rw[<-bh,ai] at I;have f:dJ ((jv n (t::ts)).map λs=>D.lst (s.map sD)).length ((t.1-1:Nat):Int)=↑(t.1-1):=by
  rw[tu ∅ (by rw[ai,qj];lia)];congr 1
 have U:((jv n (t::ts)).map λs=>D.lst (s.map sD)).set (t.1-1) (.lst ((cN ts (t.1-1)).flatten.map sD))=(jv n ts).map λs=>D.lst (s.map sD):=by
  rw[Y,kq]
 have w:cE ((jv n (t::ts)).map λs=>D.lst (s.map sD)).length:=few (by rw[ai,qj];lia);have g:cE (M.length+1):=few ∅;have hi:eV [↥(((tq n (t::ts)).map kD).length:Int)]=↑(bL 0 n):=by
  rw[ai,show(tq n (t::ts)).length=n by simp[tq]];exact qh n ∅
 have y:((t.1-1:Nat):Int)+1=(t.1:Int):=by lia
 generalize ((tq n (t::ts)).map kD)=HL at *;generalize z:((t.1-1:Nat):Int)=pp at *;have A:cV (kD (bN t.2)) ↥0=↑↥(t.2.length:Int):=rfl;have B:cV (kD (bN t.2)) ↥1=↑↥(aP t.2):=rfl;have C:cV (kD (bN t.2)) ↥2=↑↥(bA t.2):=rfl;have h:D.tup [↥(t.1:Int),↥(t.2.length:Int),↥(aP t.2),↥(bA t.2)]=cF t:=rfl;refine⟨⇑(.lst HL),!↥pp,b,?_⟩;simp only[sM,aE,aG,bP,j1,ze,rk,aL,j7,kY,gq,bc,aC,ir,fC,qc,l_,bH,aD,iw,aH,cP,aB,gG,gP,gB,af,ah,ae,aj,ao,au,di,w,g,d6,c,hi,v,d,A,B,C,y,h,e,I,f,U,bf,ci,show(0+1+1+1+1<=64)=True by simp]
theorem Eg{n:Nat}(r:n<=1000)(Y:j0):∀(ts:kn) (I:Nat) (v3 v4 v5:j0) (M:i0),ts.length<I->M.length+ts.length<=1000->aK (jv n ts) ts->(∀x∈(jv n ts).flatten,i6 x)->(jv n ts).flatten.length<=14 ->
  ∃b d g i,qm tE sM I [Y,↑(.ow ((jv n ts).map λs=>D.lst (s.map sD))),↑(.ow M),v3,v4,v5]=↑(.nx,[Y,b,↑(.ow (M++ts.map cF)),d,g,i])
 |_,0,_,_,_,_,h,_,_,_,_=>by lia |ts,f+1,v3,v4,v5,M,h,hM,ok,hg,hl=>by
   have c:=vt (te:=ir 0) (base:=[]) (λs:kf=>D.lst (s.map sD)) (λs:kf=>D.int (s.length:Int)) (jv n ts) λs _=>⟨_,by simp;rfl⟩;have u:=DV (λs:kf=>(s.length:Int)) (jv n ts);have w:cE ((jv n ts).map λs=>D.lst (s.map sD)).length:=few (by rw[ai,qj];lia);have Z:((jv n ts).map λs:kf=>(s.length:Int)).sum=((ts.map (·.2)).flatten.length:Int):=by
    have e:∀l:kl,(l.map λs:kf=>(s.length:Int)).sum=(l.flatten.length:Int):=λl=>by
     induction l with
     |nil=>rfl |cons a l j=>rw[bq,gc,j,de,ak];lia
    rw[e,ok.perm.length_eq]
   rw[Z] at u;have y:tE [Y,↑(.ow ((jv n ts).map λs=>D.lst (s.map sD))),↑(.ow M),v3,v4,v5]=↑(decide (0<((ts.map (·.2)).flatten.length:Int)),[Y,↑(.ow ((jv n ts).map λs=>D.lst (s.map sD))),↑(.ow M),v3,v4,v5]):=by
    unfold tE;generalize ((jv n ts).map λs=>D.lst (s.map sD))=L at *;simp[j7,kY,w,c,u]
   unfold qm;rw[y,ae];dsimp only;cases ts with
   |nil =>
     rw[cb ⋯];exact⟨↑(.ow ((jv n []).map λs=>D.lst (s.map sD))),v3,v4,v5,by rw[di,c8]⟩
   |cons t ts =>
     have v:0<t.2.length:=i7.mpr (ok.good t ⋯).ne;rw[ax (by simp[jl];lia)];obtain⟨d,g,i,V⟩:=M3 ok hg hl r Y v3 v4 v5 M (by simp at hM;lia);rw[V,ae];dsimp only;have k:=ok.tail;have lo:=ok.lo t ⋯;rw[qj] at lo;have U:(t.2++(jv n ts).flatten).Perm (jv n (t::ts)).flatten:=by
      rw[Ec lo.1 lo.2];exact(tp (ul ∅)).symm
     have m:=U.length_eq;rw[ak] at m;obtain⟨b,o,p,q,j⟩:=Eg r Y ts f d g i (M++[cF t]) (by simp at h;lia) (by simp at hM ⊢;lia) k (λx z=>hg x (U.mem_iff.mp (cg _ z))) ∅;exact⟨b,o,p,q,by rw[j];simp⟩
theorem Eh(ok:aK ss ts)(U:∀x∈ss.flatten,i6 x)(V:ss.flatten.length<=14)(f:ss.length<=900):pu [aF ss]=↑(.lst (ts.map cF)):=by
 have Y:=ok.len;have I:=ok.left;have c:=vt (te:=aL (gq tf (bc (aB 0) (aC)))) (base:=[]) (λs:kf=>D.lst (s.map sD)) (λs:kf=>D.lst (s.map sD)) ss λs _=>⟨_,by simp;rfl⟩;have Z:cE (ss.map λs=>D.lst (s.map sD)).length:=few (by rw[ai];lia);obtain⟨a,b,d,e,h⟩:=Eg (n:=ss.length) ∅ ⇑(aF ss) ts 10000 none none none [] ∅ (by simp;lia) (by rw[I];exact ok) (by rw[I];exact U) (by rw[I];exact V);rw[I,j2] at h;refine kt (e':=[!aF ss,a,!.lst (ts.map cF),b,d,e]) rfl ?_;show yO [!(.lst (ss.map λs=>D.lst (s.map sD))),none,none,none,none,none]=_;unfold tE aF at h;unfold aF;generalize (ss.map λs=>D.lst (s.map sD))=L at *;simp[yO,j7,Z,c,h]
def j6(ts:kn):g7:=(ts.map λt=>List.replicate t.2.length t.1).flatten
def iD(ns:g7):i0:=ns.map λn:Nat=>D.int (n:Int)
def xv(a b:kn):j6 (a++b)=j6 a++j6 b:=by simp[j6]
def mX(t:Tn):j6 [t]=List.replicate t.2.length t.1:=by simp[j6]
def Ei(ts:kn):(j6 ts).length=(ts.map (·.2)).flatten.length:=by
 induction ts with
 |nil=>rfl |cons t ts ih =>
   rw[show t::ts=[t]++ts from rfl,xv,mX,ak,gn,ih];simp
def Ej(d:D)(k:Nat):(List.replicate k [d]).flatten=List.replicate k d:=by simp_all
def z_(a b:g7):iD (a++b)=iD a++iD b:=by simp[iD]
def Ek(k a:Nat):iD (List.replicate k a)=List.replicate k ↥(a:Int):=by simp[iD]
def vh(a:g7):(iD a).length=a.length:=by simp[iD]
theorem pE(k:Nat)(h:k<=1000000):gA (-(2 ^ 62)) (2 ^ 62) (k:Int):=⟨by lia,by lia⟩
theorem M4(ok:aK ss ts)(Y:∀x∈ss.flatten,i6 x)(V:ss.flatten.length<=14)(Z:ss.length<=900):yR [aF ss]=↑(iD (j6 ts)):=by
 have a:=Eh ok Y V Z;have I:(j6 ts).length<=14:=by rw[Ei,ok.perm.length_eq];exact V
 obtain⟨e',h1,v2,rfl⟩:=vp (i:=2) (g:=yP) cF (λp e=>∃v2,e=[!aF ss,↑(.ow (iD (j6 p))),v2]) ts
  [!aF ss,↑(.ow []),none] ⟨none,rfl⟩ (by
   rintro p t q e U ⟨v2,rfl⟩;have b:(j6 p).length+t.2.length<=14:=by
    rw[U,xv,show t::q=[t]++q from rfl,xv,mX] at I;simp at I
    lia
   have c:cE (1*t.2.length):=few ∅;have f2:cE ((iD (j6 p)).length+(List.replicate t.2.length (D.int (t.1:Int))).length):=few (by rw[vh,gn];lia);have d:=pE t.2.length ∅;have f:iD (j6 p)++List.replicate t.2.length (D.int (t.1:Int))=iD (j6 (p++[t])):=by rw[xv,mX,z_,Ek]
   refine⟨[!aF ss,↑(.ow (iD (j6 (p++[t])))),!cF t],?_,_,rfl⟩;rw[<-f];unfold cF;simp only[yP,bM,cW,aB,aL,iC,ij,bc,aH,cP,fC,aC,af,ah,ae,aj,ao,au,Kp,Kq,bf,ci,show(0+1<=64)=True by simp,d6,ft,lw,c,d,and_self,Ej,f2])
 refine t4 (e':=[!aF ss,↑(.ow (iD (j6 ts))),v2]) rfl ?_;show yQ [!aF ss,none,none]=_;simp[yQ,a,h1]
theorem Aa(ok:aK ss ts)(U:va [aF ss]=↑(.lst (ts.map cF)))(Z:ss.flatten.length<=14):zx [aF ss]=↑(iD (j6 ts)):=by
 have I:(j6 ts).length<=14:=by rw[Ei,ok.perm.length_eq];exact Z
 obtain⟨e',h1,v2,v3,v4,v5,rfl⟩:=xu (ix:=[2,3,4,5]) (g:=sK) (λt:Tn=>[D.int (t.1:Int),↥(t.2.length:Int),↥(aP t.2),↥(bA t.2)]) (λp e=>∃v2 v3 v4 v5,e=[!aF ss,↑(.ow (iD (j6 p))),v2,v3,v4,v5]) ts
  [!aF ss,↑(.ow []),none,none,none,none] ⟨none,none,none,none,rfl⟩ (λ_ _=>rfl) (by
   rintro p t q e V ⟨v2,v3,v4,v5,rfl⟩;have a:(j6 p).length+t.2.length<=14:=by
    rw[V,xv,show t::q=[t]++q from rfl,xv,mX] at I;simp at I
    lia
   have b:cE (1*t.2.length):=few ∅;have f2:cE ((iD (j6 p)).length+(List.replicate t.2.length (D.int (t.1:Int))).length):=few (by rw[vh,gn];lia);have c:=pE t.2.length ∅;have d:iD (j6 p)++List.replicate t.2.length (D.int (t.1:Int))=iD (j6 (p++[t])):=by rw[xv,mX,z_,Ek]
   refine⟨[!aF ss,↑(.ow (iD (j6 (p++[t])))),!↥(t.1:Int),!↥(t.2.length:Int),!↥(aP t.2),!↥(bA t.2)],?_,_,_,_,_,rfl⟩;rw[<-d];simp only[ql,sK,j1,rD,wZ,iC,ij,bc,aB,aC,af,ah,ae,aj,ao,au,bf,ci,show(0+1<=64)=True by simp,d6,ft,lw,b,c,and_self,Ej,f2])
 refine t4 (e':=[!aF ss,↑(.ow (iD (j6 ts))),v2,v3,v4,v5]) rfl ?_;show yN [!aF ss,none,none,none,none,none]=_;have Y:fX [2,3,4,5] sK (ts.map cF) [!aF ss,↑(.ow []),none,none,none,none]=_:=h1;simp[yN,U,Y]
structure aW (ss:kl) (os:g7):Prop where
 lo:∀a∈os,1<=a/\a<=ss.length
 cnt:∀(j:Nat) (s:kf),ss[j]?=↑s->os.count (j+1)=s.length
variable{os:g7}
def aW.perm{D:g7}(h:aW ss os)(p:os.Perm D):aW ss D :=
 ⟨λa I=>h.lo a (p.mem_iff.mpr I),λj s U=>by rw[<-p.count_eq];exact h.cnt j s U⟩
theorem El(m:Nat):∀n:Nat,((List.range n).map λj=>if j=m then 1 else 0).sum=if m<n then 1 else 0
 |0=>by simp |n+1=>by
   rw[gg,bh,gf,El m n];simp only[bq,di,gc,t5];by_cases h1:m<n
   ·rw[ax h1,cb ∅,ax ∅];rfl
   ·rw[cb h1]
    by_cases h2:n=m
    ·rw[ax h2,ax ∅];rfl
    ·rw[cb h2,cb ∅];rfl
theorem Em{α:Type}(f g:α->Nat):∀l:List α,(l.map λx=>f x+g x).sum=(l.map f).sum+(l.map g).sum
 | []=>rfl |x::l=>by
   simp[gc,Em f g l]
   lia
theorem pF(n:Nat):∀(p:g7),(∀a∈p,1<=a/\a<=n)->((List.range n).map λj=>p.count (j+1)).sum=p.length
 | [],_=>by
   have:∀l:g7,(l.map λj=>([]:g7).count (j+1)).sum=0:=λl=>by
    induction l with
    |nil=>rfl |cons a l D=>rw[bq,gc,D];rfl
   rw[this];rfl
 |a::p,h=>by
   have D:=pF n p λb U=>h b (ay _ U);have V:=h a bi;have e:(λj=>(a::p).count (j+1))=λj=>p.count (j+1)+if j=a-1 then 1 else 0:=by
    funext j;rw[wx];by_cases I:j=a-1
    ·rw[ax I,ax (by simp;lia)]
    ·rw[cb I,cb (by simp;lia)]
   rw[e,Em,D,El,ax ∅,bf]
theorem En(f g:Nat->Nat):∀n:Nat,(∀j,j<n->f j<=g j)->((List.range n).map f).sum=((List.range n).map g).sum->∀j,j<n->f j=g j
 |n+1,hle,hs,j,D=>by
   have U:((List.range n).map f).sum<=((List.range n).map g).sum:=by
    have:∀l:g7,(∀j∈l,f j<=g j)->(l.map f).sum<=(l.map g).sum:=λl=>by
     induction l with
     |nil=>intro _;simp
     |cons a l ih =>
       intro h;have h1:=h a ⋯;have h2:=ih λj D=>h j (by simp[D]);simp[gc]
       lia
    exact this _ λj D=>hle j (by have:=ff.mp D;lia)
   rw[gg,bh,bh,gf,gf] at hs;simp[gc,t5] at hs;have V:=hle n ∅;by_cases I:j=n
   ·subst I;lia
   ·exact En f g n (λj D=>hle j ∅) ∅ j ∅
def Ab(ss:kl):((List.range ss.length).map λj=>(ss.getD j []).length).sum=ss.flatten.length:=by
 have:(List.range ss.length).map (λj=>(ss.getD j []).length)=ss.map List.length:=by
  apply eo;intro i;by_cases h:i<ss.length
  ·simp[h]
  ·simp[h]
 rw[this,jz]
def aW.len(h:aW ss os):os.length=ss.flatten.length:=by
 rw[<-pF ss.length os h.lo,<-Ab];congr 1;apply jx;intro j D;have D:j<ss.length:=ff.mp D;rw[h.cnt j ss[j] (by simp[D])];simp[D]
def Eo{P:List α->Prop}(D:P [])(I:∀p a,P p->P (p++[a]))(p:List α):P p:=by
 have:∀l:List α,P l.reverse:=λl=>by
  induction l with
  |nil=>exact D |cons a l ih=>rw[List.reverse_cons];exact I _ _ ih
 rw[<-List.reverse_reverse p];exact this _
def xk(ss:kl)(a c:Nat):Sk:=(ss.getD (a-1) []).getD c (0,0,0)
def tk(ss:kl)(os:g7):kf:=(List.range os.length).map λi=>xk ss (os.getD i 0) ((os.take i).count (os.getD i 0))
theorem Ac(ss:kl)(p:g7)(a:Nat):tk ss (p++[a])=tk ss p++[xk ss a (p.count a)]:=by
 unfold tk;rw[ak,d5,gg,bh];congr 1
 ·apply jx
  intro i hi;have hi:i<p.length:=ff.mp hi;have D:(p++[a]).getD i 0=p.getD i 0:=by
   rw[aw,aw,bg hi]
  rw[D,jd ∅]
 ·have D:(p++[a]).getD p.length 0=a:=by simp
  simp only[bq,di];rw[D,yw]
def zj(ss:kl)(os:g7):(tk ss os).length=os.length:=by simp[tk]
theorem aW.at{ss:kl}{p q:g7}{a:Nat}(h:aW ss (p++a::q)):∃s,ss[a-1]?=↑s/\p.count a<s.length/\s[p.count a]?=↑(xk ss a (p.count a))/\1<=a/\a<=ss.length:=by
 obtain⟨h1,h2⟩:=h.lo a ⋯;have D:a-1<ss.length:=by lia
 have U:=h.cnt (a-1) ss[a-1] (by simp[D]);rw[show a-1+1=a by lia,t9,List.count_cons_self] at U;have I:p.count a<ss[a-1].length:=by lia
 refine⟨ss[a-1],by simp[D],I,?_,h1,h2⟩;unfold xk;simp[D,I]
def aW.mem(h:aW ss os):∀(p:g7),∀(q:g7),os=p++q->∀x∈tk ss p,x∈ss.flatten:=by
 apply Eo
 ·intro q _ x hx
  simp[tk] at hx
 ·intro p a U q I x hx
  rw[Ac] at hx;rcases dc.mp hx with hx |hx
  ·exact U (a::q) (by rw[I];simp) x hx
  ·rw[I,cx,gm] at h
   obtain⟨s,V,Y,D,_⟩:=h.at;have e:x=xk ss a (p.count a):=by simpa using hx
   subst e;exact fy.mpr ⟨s,bn V,bn D⟩
def aW.sk(h:aW ss os):∀x∈tk ss os,x∈ss.flatten:=h.mem os [] ⋯
theorem M5(ts:kn)(j:Nat):(j6 ts).count (j+1)=(cN ts j).flatten.length:=by
 induction ts with
 |nil=>simp[j6,cN] |cons t ts ih =>
   rw[show t::ts=[t]++ts from rfl,xv,mX,t9,ih];by_cases e:t.1=j+1
   ·rw[gm,mW t ts j e,de,ak,e,List.count_replicate_self]
   ·rw[gm,pB t ts j e,List.count_replicate,cb (by simpa using e)]
    lia
def aK.whole(ok:aK ss ts):aW ss (j6 ts):=by
 refine⟨λa I=>?_,λj s U=>?_⟩
 ·obtain⟨l,V,D⟩:=fy.mp I
  obtain⟨t,Y,rfl⟩:=dz.mp V;rw[List.eq_of_mem_replicate D];exact ok.lo t Y
 ·rw[M5,ok.part j s U]
def aX(n:Nat)(f:Nat->Int):i0:=(List.range n).map λj=>D.int (f j)
def zp(n:Nat)(f:Nat->Int):(aX n f).length=n:=by simp[aX]
def mY(n:Nat)(f:Nat->Int)(j:Nat)(h:j<n):bJ (aX n f) (j:Int)=↑↥(f j):=md (λj:Nat=>D.int (f j)) (by simp[h])
def pG(n:Nat)(f g:Nat->Int)(j:Nat)(h:∀i,i<n->i≠j->g i=f i):(aX n f).set j ↥(g j)=aX n g:=by
 apply eo;intro i;unfold aX;rw[jo];by_cases hi:i<n
 ·by_cases e:j=i
  ·subst e;simp[hi]
  ·rw[cb e]
   simp[hi,h i hi (Ne.symm e)]
 ·by_cases e:j=i
  ·subst e;simp[hi]
  ·rw[cb e];simp[hi]
def Ad(n:Nat)(f:Nat->Int)(j:Nat)(h:j<n):(aX n f)[j]?=↑↥(f j):=by simp[aX,h]
def Ae(h:ds.length=ar)(D:g (kr n ds)=↑(.nx,e')):aR n ar g ds=some .non:=by
 unfold aR;rw[ax h,D]
theorem M6(V:1<=a)(Y:a<=ss.length):yW [aF ss,↥(a:Int)]=some .non:=by
 have I:decide ((a:Int)<1)=false:=by simp;lia
 have U:decide (((ss.map λs=>D.lst (s.map sD)).length:Int)<(a:Int))=false:=by rw[ai];simp;lia
 refine Ae (e':=[!aF ss,!↥(a:Int)]) rfl ?_;show yV [!aF ss,!↥(a:Int)]=_;unfold aF;generalize (ss.map λs=>D.lst (s.map sD))=L at *;simp only[yV,bZ,aU,gK,aJ,aD,aB,fC,ir,fB,dU,af,ah,ae,aj,ao,au,I,U,du,ig]
def aN(ss:kl)(p:g7)(j:Nat):Int:=((ss.getD j []).length:Int)-(p.count (j+1):Int)
def M7(ss:kl):(ss.map λs=>D.int (s.length:Int))=aX ss.length (aN ss []):=by
 apply eo;intro i;unfold aX aN;by_cases h:i<ss.length
 ·simp[h]
 ·simp[h]
def tF(ss:kl):qy cG (ir 0) [] (ss.map λs=>D.lst (s.map sD))=↑(aX ss.length (aN ss [])):=by
 rw[<-M7];exact vt (te:=ir 0) (base:=[]) (λs:kf=>D.lst (s.map sD)) (λs:kf=>D.int (s.length:Int)) ss λs _=>⟨_,by simp;rfl⟩
def mZ(p:g7)(a b:Nat):(p++[a]).count b=p.count b+if a=b then 1 else 0:=by
 by_cases h:a=b
 ·simp[h]
 ·simp[h]
theorem Af(ss:kl)(p:g7)(a:Nat)(h1:1<=a):aN ss (p++[a]) (a-1)=aN ss p (a-1)-1/\∀i,i≠a-1->aN ss (p++[a]) i=aN ss p i:=by
 unfold aN;refine⟨?_,λi hi=>?_⟩
 ·rw[mZ,ax ∅];lia
 ·rw[mZ,cb ∅];lia
def Ah(h:aW ss os)(j:Nat)(D:j<ss.length):aN ss os j=0:=by
 unfold aN;rw[h.cnt j ss[j] (by simp[D])];simp[D]
variable{p:g7}
theorem M8(h:aW ss (p++a::q)):0<aN ss p (a-1):=by
 obtain⟨s,D,I,_,h1,h2⟩:=h.at;unfold aN;rw[show a-1+1=a by lia,aw,D];simp
 lia
def tG(n:Nat)(f:Nat->Int):cO (aX n f)=↑((List.range n).map f):=by
 have:aX n f=((List.range n).map f).map D.int:=by unfold aX;rw[dq];rfl
 rw[this,vZ]
theorem Ai(f:Nat->Int):∀n:Nat,(∀j,j<n->f j=0)->((List.range n).map f).sum=0
 |0,_=>rfl |n+1,h=>by
   rw[gg,bh,gf,Ai f n λj D=>h j ∅];simp[h n ∅]
theorem M9(h:aW ss os)(v:ss.length<=1000):yY [aF ss,.lst (iD os)]=some .non:=by
 obtain⟨e',h1,v3,rfl⟩:=vp (i:=3) (g:=sN) (λa:Nat=>D.int (a:Int)) (λp e=>∃v3,e=[!aF ss,!.lst (iD os),↑(.ow (aX ss.length (aN ss p))),v3]) os
  [!aF ss,!.lst (iD os),↑(.ow (aX ss.length (aN ss []))),none] ⟨none,rfl⟩ (by
   rintro p a q e Z ⟨v3,rfl⟩;have f:aW ss (p++a::q):=by rw[<-Z];exact h
   obtain⟨s,w,k,_,l,x⟩:=f.at;have y:=M8 f;obtain⟨m,n⟩:=Af ss p a l;have b:(a:Int)-1=((a-1:Nat):Int):=by lia
   have c:=mY ss.length (aN ss p) (a-1) ∅;have V:=Ad ss.length (aN ss p) (a-1) ∅;have I:=pG ss.length (aN ss p) (aN ss (p++[a])) (a-1) (λi _ hi=>n i hi);rw[m] at I;have o:decide (aN ss p (a-1)=0)=false:=by simp;lia
   have d:a-1<(aX ss.length (aN ss p)).length:=by rw[zp];lia
   have r:(0:Int)<=((a-1:Nat):Int):=by lia
   refine⟨[!aF ss,!.lst (iD os),↑(.ow (aX ss.length (aN ss (p++[a])))),!↥(a:Int)],?_,_,rfl⟩;rw[<-I];generalize aX ss.length (aN ss p)=L at *;simp only[sN,aE,bZ,aU,vm,oA,aJ,aD,aH,cP,aB,fC,bO,eU,af,ah,ae,aj,ao,au,b,c,o,du,ig,r,d6,ft,V,d])
 have b:((List.range ss.length).map (aN ss os)).sum=0:=Ai _ _ λj t=>Ah h j t;have U:=tG ss.length (aN ss os);have k:=tF ss;have u:cE (ss.map λs=>D.lst (s.map sD)).length:=few (by rw[ai];lia);refine Ae (e':=[!aF ss,!.lst (iD os),↑(.ow (aX ss.length (aN ss os))),v3]) rfl ?_;show yX [!aF ss,!.lst (iD os),none,none]=_;have Y:bW 3 sN (iD os) [!aF ss,!.lst (iD os),↑(.ow (aX ss.length (aN ss []))),none]=_:=h1;unfold aF at Y ⊢;generalize iD os=O at *;generalize (ss.map λs=>D.lst (s.map sD))=L at *;simp[yX,j7,xj,u,k,Y,U,b,Int.lt_irrefl]
def Ep(h:aW ss os)(V:ss.length<=1000):y_ [aF ss,.lst (iD os)]=some .non:=by
 obtain⟨e',h1,v2,rfl⟩:=vp (i:=2) (g:=sO) (λa:Nat=>D.int (a:Int)) (λp e=>∃v2,e=[!aF ss,!.lst (iD os),v2]) os
  [!aF ss,!.lst (iD os),none] ⟨none,rfl⟩ (by
   rintro p a q e I ⟨v2,rfl⟩;obtain⟨Y,Z⟩:=h.lo a (by rw[I];simp);have b:=M6 (ss:=ss) Y Z;simp[sO,b])
 have h2:=M9 h V;refine Ae (e':=[!aF ss,!.lst (iD os),v2]) rfl ?_;show yZ [!aF ss,!.lst (iD os),none]=_;have U:bW 2 sO (iD os) [!aF ss,!.lst (iD os),none]=_:=h1;generalize iD os=O at *;simp[yZ,U,h2]
def dA(p:g7)(j:Nat):Int:=(p.count (j+1):Int)
theorem MA(p:g7)(a:Nat)(h1:1<=a):dA (p++[a]) (a-1)=dA p (a-1)+1/\∀i,i≠a-1->dA (p++[a]) i=dA p i:=by
 unfold dA;refine⟨?_,λi hi=>?_⟩
 ·rw[mZ,ax ∅];lia
 ·rw[mZ,cb ∅];lia
def Er(ss:kl):qy cG [:0] [] (ss.map λs=>D.lst (s.map sD))=↑(aX ss.length (dA [])):=by
 rw[vt (te:=fC ↥0) (base:=[]) (λs:kf=>D.lst (s.map sD)) (λs:kf=>D.int 0) ss λs _=>⟨_,by simp;rfl⟩];congr 1;apply eo;intro i;unfold aX dA;by_cases h:i<ss.length
 ·simp[h]
 ·simp[h]
theorem MB(V:aW ss (p++a::q)) :
  (a:Int)-1=((a-1:Nat):Int)/\bJ (aX ss.length (dA p)) ((a-1:Nat):Int)=↑↥(p.count a:Int)/\(aX ss.length (dA p))[a-1]?=↑↥(p.count a:Int) /\
    (aX ss.length (dA p)).set (a-1) ↥((p.count a:Int)+1)=aX ss.length (dA (p++[a]))/\a-1<(aX ss.length (dA p)).length/\dJ (aX ss.length (dA p)).length ((a-1:Nat):Int)=↑(a-1) /\
    ∃s:kf,bJ (ss.map λs=>D.lst (s.map sD)) ((a-1:Nat):Int)=↑(.lst (s.map sD))/\bJ (s.map sD) (p.count a:Int)=↑(sD (xk ss a (p.count a))):=by
 obtain⟨s,Y,e,Z,b,f⟩:=V.at;obtain⟨c,d⟩:=MA p a b;have U:dA p (a-1)=(p.count a:Int):=by unfold dA;rw[show a-1+1=a by lia]
 have I:=pG ss.length (dA p) (dA (p++[a])) (a-1) (λi _ hi=>d i hi);rw[c,U] at I;refine⟨by lia,?_,?_,I,by rw[zp];lia,?_,s,md (λs:kf=>D.lst (s.map sD)) Y,md sD Z⟩
 ·rw[mY _ _ _ ∅,U]
 ·rw[Ad _ _ _ ∅,U]
 ·rw[tu ∅ (by rw[zp];lia)]
  congr 1
theorem vw(h:aW ss os)(l:ss.length<=1000)(k:os.length<=1000):zy [aF ss,.lst (iD os)]=↑(.lst ((tk ss os).map sD)):=by
 obtain⟨e',h1,v4,rfl⟩:=vp (i:=4) (g:=pw) (λa:Nat=>D.int (a:Int)) (λp e=>∃v4,e=[!aF ss,!.lst (iD os),↑(.ow (aX ss.length (dA p))),↑(.ow ((tk ss p).map sD)),v4]) os
  [!aF ss,!.lst (iD os),↑(.ow (aX ss.length (dA []))),↑(.ow []),none] ⟨none,rfl⟩ (by
   rintro p a q e I ⟨v4,rfl⟩;have m:aW ss (p++a::q):=by rw[<-I];exact h
   obtain⟨n,b,U,V,c,o,s,d,f⟩:=MB m;have j:cE (((tk ss p).map sD).length+1):=few (by rw[ai,zj];rw[I] at k;simp at k;lia);have r:(0:Int)<=((a-1:Nat):Int):=by lia
   have t:cV (.lst (s.map sD)) ↥(p.count a:Int)=↑(sD (xk ss a (p.count a))):=f;refine⟨[!aF ss,!.lst (iD os),↑(.ow (aX ss.length (dA (p++[a])))),↑(.ow ((tk ss (p++[a])).map sD)),!↥(a:Int)],?_,_,rfl⟩;rw[<-V,Ac,bh,bq,di];unfold aF;generalize (tk ss p).map sD=M at *;generalize s.map sD=S at *;simp only[pw,aE,j1,vm,oA,qc,l_,aD,aH,cP,aB,fC,bO,iw,af,ah,ae,aj,ao,au,n,b,d,t,j,r,d6,ft,U,c])
 have Y:=Ep h l;have u:=Er ss;have j:cE (ss.map λs=>D.lst (s.map sD)).length:=few (by rw[ai];lia);refine kt (e':=[!aF ss,!.lst (iD os),↑(.ow (aX ss.length (dA os))),!.lst ((tk ss os).map sD),v4]) rfl ?_;show p3 [!aF ss,!.lst (iD os),none,none,none]=_;have Z:bW 4 pw (iD os) [!aF ss,!.lst (iD os),↑(.ow (aX ss.length (dA []))),↑(.ow []),none]=_:=h1;unfold aF at Z Y ⊢;generalize (ss.map λs=>D.lst (s.map sD))=L at *;simp[p3,j7,Y,j,u,Z]
def qb(h:Int):List (Nat×Sk)->List g8
 | []=>[] |x::r=>[x.2.1,(x.1:Int),h,h+x.2.2.1]::qb (h+x.2.2.1) r
def Es(x:Sk)(r:kf):aP (x::r)=x.2.1+aP r:=rfl
def Et(x:Nat×Sk):∀(p:List (Nat×Sk)) (h:Int),qb h (p++[x])=qb h p++[[x.2.1,(x.1:Int),h+aP (p.map (·.2)),h+aP (p.map (·.2))+x.2.2.1]]
 | [],h=>by simp[qb,aP] |y::p,h=>by
   rw[lg,qb,qb,Et x p,bq,Es];rw[<-Int.add_assoc];rfl
def oo(h:Int):kf->Int
 | []=>0 |x::r=>x.2.2*(h+x.2.1)+oo (h+x.2.1) r
theorem Eu(x:Sk):∀(p:kf) (h:Int),oo h (p++[x])=oo h p+x.2.2*(h+aP p+x.2.1)
 | [],h=>by simp[oo,aP] |y::p,h=>by
   rw[lg,oo,oo,Eu x p,Es,<-Int.add_assoc h]
   lia
def tH(x:Sk):um [sD x]=↑↥x.2.1:=rfl
def Aj(x:Sk):zt [sD x]=↑↥x.2.2:=rfl
def wq(x:Sk):pd [sD x]=↑↥x.1:=rfl
def Ev:∀(p:List (Nat×Sk)) (h:Int),(qb h p).length=p.length
 | [],_=>rfl |x::p,h=>by rw[qb,bf,bf,Ev p]
theorem Ak(h:aW ss os)(U:ss.length<=1000)(c:os.length<=900):DK [aF ss,.lst (iD os)]=↑(.lst ((qb 0 (os.zip (tk ss os))).map iT)):=by
 have V:=vw h U ∅;obtain⟨e',h1,v3,v4,v5,v6,rfl,rfl⟩:=xu (ix:=[4,5]) (g:=sP) (λx:Nat×Sk=>[D.int (x.1:Int),sD x.2])
  (λp e=>∃v3 v4 v5 v6,e=[!aF ss,!.lst (iD os),↑(.ow ((qb 0 p).map iT)),v3,v4,v5,v6]/\v3=⇑↥(aP (p.map (·.2)))) (os.zip (tk ss os))
  [!aF ss,!.lst (iD os),↑(.ow []),!↥0,none,none,none] ⟨_,none,none,none,rfl,rfl⟩ (λ_ _=>rfl) (by
   rintro p x q e I ⟨v3,v4,v5,v6,rfl,rfl⟩;have Y:cE (((qb 0 p).map iT).length+1):=few (by
    rw[ai,Ev];have:=congrArg List.length I;simp[ww] at this
    lia)
   have Z:iT [x.2.1,(x.1:Int),0+aP (p.map (·.2)),0+aP (p.map (·.2))+x.2.2.1]=.tup [↥x.2.1,↥(x.1:Int),↥(aP (p.map (·.2))),↥(aP (p.map (·.2))+x.2.2.1)]:=by simp[iT]
   have a:aP ((p++[x]).map (·.2))=aP (p.map (·.2))+x.2.2.1:=by rw[bh,ui];simp[aP]
   rw[Et,bh,bq,di,Z,a];generalize (qb 0 p).map iT=M at *;simp[ql,sP,tH,wq,Y])
 refine kt (e':=[!aF ss,!.lst (iD os),!.lst ((qb 0 (os.zip (tk ss os))).map iT),!↥(aP ((os.zip (tk ss os)).map (·.2))),v4,v5,v6]) rfl ?_;show p4 [!aF ss,!.lst (iD os),none,none,none,none,none]=_;have b:kG [.lst (iD os),.lst ((tk ss os).map sD)]=↑((os.zip (tk ss os)).map λx=>D.tup [D.int (x.1:Int),sD x.2]):=by
  show ↑(eO (iD os) ((tk ss os).map sD))=_;unfold iD;rw[zU]
 simp only[p4,aE,bM,aG,p8,aM,ij,aC,fC,gq,e9,bc,aB,af,ah,ae,aj,ao,au,ci,f9,d6,V,b,h1]
theorem Ew(h:aW ss os)(I:∀x∈ss.flatten,i6 x)(U:ss.length<=1000)(a:os.length<=900):sR [aF ss,.lst (iD os)]=↑↥(oo 0 (tk ss os)):=by
 have V:=vw h U ∅;obtain⟨e',h1,v4,rfl⟩:=vp (i:=4) (g:=sQ) sD (λp e=>∃v4,e=[!aF ss,!.lst (iD os),!↥(oo 0 p),!↥(aP p),v4]) (tk ss os)
  [!aF ss,!.lst (iD os),!↥0,!↥0,none] ⟨none,rfl⟩ (by
   rintro p x q e D ⟨v4,rfl⟩;obtain⟨_,_,_,_,b,c⟩:=I x (h.sk x (by rw[D];simp));have sm:n8 x.2.2:=qa ∅;have Y:aP (p++[x])=aP p+x.2.1:=by rw[ui];simp[aP]
   have Z:oo 0 (p++[x])=oo 0 p+x.2.2*(aP p+x.2.1):=by rw[Eu,i5]
   rw[Y,Z];simp[sQ,tH,Aj,wf sm])
 refine kt (e':=[!aF ss,!.lst (iD os),!↥(oo 0 (tk ss os)),!↥(aP (tk ss os)),v4]) rfl ?_;show p5 [!aF ss,!.lst (iD os),none,none,none]=_;simp[p5,V,h1]
theorem Ex(ss:kl)(p:g7)(h:∀a∈p,1<=a/\a<=ss.length):((List.range ss.length).map (aN ss p)).sum=(ss.flatten.length:Int)-(p.length:Int):=by
 have e:∀(f g:Nat->Nat) (l:g7),(l.map λj=>(f j:Int)-(g j:Int)).sum=((l.map f).sum:Int)-((l.map g).sum:Int):=λf g l=>by
  induction l with
  |nil=>rfl |cons a l ih=>simp[gc,ih];lia
 rw[<-Ab,<-pF ss.length p h];exact e _ _ _
theorem Ey(f:Nat->Int):∀n:Nat,0<((List.range n).map f).sum->∃j,j<n/\0<f j
 |0,h=>by simp at h |n+1,h=>by
   rw[gg,bh,gf] at h;simp only[bq,di,gc,t5] at h;by_cases h1:0<f n
   ·exact⟨n,by lia,h1⟩
   ·obtain⟨j,I,D⟩:=Ey f n ∅
    exact⟨j,by lia,D⟩
theorem MC(ss:kl)(hn:ss.length<=900)(hl:ss.flatten.length<=900)(Y:Int):∃os,aW ss os/\zA [aF ss,↥Y]=↑(iD os):=by
 have f:=Ex ss [] ⋯;rw[ci] at f;have l:=tG ss.length (aN ss []);have E:((List.range ss.length).map (aN ss [])).sum=(ss.flatten.length:Int):=by rw[f];lia
 obtain⟨e',h1,p,I,v4,v5,v6,rfl,Z,V,m⟩:=uk (i:=4) (g:=zv) (λk e=>∃(p:g7) (I:Int) (v4 v5 v6:j0),e=[!aF ss,!↥I,↑(.ow (aX ss.length (aN ss p))),↑(.ow (iD p)),v4,v5,v6]/\p.length=k/\(∀a∈p,1<=a/\a<=ss.length)/\∀j,j<ss.length->0<=aN ss p j)
  (bL 0 ss.flatten.length) [!aF ss,!↥Y,↑(.ow (aX ss.length (aN ss []))),↑(.ow []),none,none,none]
  ⟨[],Y,none,none,none,rfl,rfl,by simp,λj U=>by unfold aN;simp⟩ (by
   rintro k d e F ⟨p,I,v4,v5,v6,rfl,Z,V,m⟩;obtain⟨rfl,hk⟩:=uj F;have G:=Ex ss p V;obtain⟨T,H,J⟩:=Ey (aN ss p) ss.length (by rw[G];lia);have c:=rK (tt:=aJ (aD dU (aH 1 (aB 0)) [:0])) (te:=aB 0) (base:=[!.lst (aX ss.length (aN ss p))]) (λj:Nat=>D.int (0+(j:Int))) (λj:Nat=>D.int (0+(j:Int))) (λj=>decide (0<aN ss p j)) (List.range ss.length) (λj U=>by
    have U:j<ss.length:=ff.mp U;have r:=mY ss.length (aN ss p) j U;rw[show(j:Int)=0+(j:Int) by lia] at r;refine⟨[!↥(0+(j:Int)),!.lst (aX ss.length (aN ss p))],?_,λ_=>⟨[!↥(0+(j:Int)),!.lst (aX ss.length (aN ss p))],rfl⟩⟩;simp only[aJ,aD,aH,cP,aB,fC,dU,af,ah,ae,aj,r])
   generalize n:(List.range ss.length).filter (λj=>decide (0<aN ss p j))=so at c;have W:0<so.length:=by
    apply i7.mpr;intro z;have:T∈so:=by rw[<-n];exact ji.mpr ⟨ff.mpr H,by simpa using J⟩
    rw[z] at this;cases this
   have S:so.length<=ss.length:=by rw[<-n];exact cy (pj _ _) ⋯
   have X:0<=I % (so.length:Int):=ia _ ∅;have aa:I % (so.length:Int)<(so.length:Int):=gi _ ∅;have t:(I % (so.length:Int)).toNat<so.length:=by lia
   generalize U:so[(I % (so.length:Int)).toNat]=j at *;have u:j∈so:=by rw[<-U];exact gk t
   have K:j<ss.length/\0<aN ss p j:=by
    rw[<-n] at u;obtain⟨a,b⟩:=ji.mp u;exact⟨ff.mp a,by simpa using b⟩
   have v:bJ (so.map λj:Nat=>D.int (0+(j:Int))) (I % (so.length:Int))=↑↥(0+(j:Int)):=by
    rw[show I % (so.length:Int)=(((I % (so.length:Int)).toNat:Nat):Int) by lia];exact md (λj:Nat=>D.int (0+(j:Int))) (by rw[aq t,U])
   have w:=mY ss.length (aN ss p) j K.1;have o:bJ (aX ss.length (aN ss p)) (0+(j:Int))=↑↥(aN ss p j):=by rw[i5];exact w
   have x:dJ (aX ss.length (aN ss p)).length (0+(j:Int))=↑j:=by
    rw[tu ∅ (by rw[zp];lia)];congr 1
    lia
   obtain⟨L,M⟩:=Af ss p (j+1) ∅;rw[show j+1-1=j by lia] at L M;have h:=pG ss.length (aN ss p) (aN ss (p++[j+1])) j (λi _ hi=>M i hi);rw[L] at h;have y:(so.map λj:Nat=>D.int (0+(j:Int))).all zc=true:=by simp[zc]
   have N:iD (p++[j+1])=iD p++[↥(0+(j:Int)+1)]:=by rw[z_];simp[iD]
   have O:cE ((iD p).length+1):=few (by rw[vh];lia);have P:cE (bL 0 ss.length).length:=few (by rw[u4];lia);have q:(so.map λj:Nat=>D.int (0+(j:Int))).length=so.length:=by simp
   have hi:=qh ss.length ∅;have Q:eV [↥((aX ss.length (aN ss p)).length:Int)]=↑(bL 0 ss.length):=by rw[zp];exact hi
   have A:bL 0 ss.length=(List.range ss.length).map λj:Nat=>D.int (0+(j:Int)):=rfl;rw[<-A] at c;have B:aZ ↥I ↥(so.length:Int)=↑↥(I % (so.length:Int)):=yn ∅;have C:bV ↥I ↥(so.length:Int)=↑↥(I / (so.length:Int)):=oF ∅ ∅;refine⟨[!aF ss,!↥(I / (so.length:Int)),↑(.ow (aX ss.length (aN ss (p++[j+1])))),↑(.ow (iD (p++[j+1]))),!↥(0+(k:Int)),!(.lst (so.map λj:Nat=>D.int (0+(j:Int)))),!↥(0+(j:Int))],?_,p++[j+1],_,_,_,_,rfl,by simp[Z],λa ha=>?_,λi hi=>?_⟩
   ·rw[<-h,N]
    simp only[zv,aE,aG,j1,ze,rk,aL,rF,gq,bc,aC,ir,aH,cP,aD,aB,fC,qc,l_,bO,iw,bq,di,List.getD_cons_zero,List.getD_cons_succ,rE,af,ah,ae,aj,ao,au,Q,P,d6,c,y,q,B,C,v,o,x,O]
   ·rcases dc.mp ha with ha |ha
    ·exact V a ha
    ·have:a=j+1:=by simpa using ha
     lia
   ·by_cases e:i=j
    ·subst e;rw[L];lia
    ·rw[M i e];exact m i hi)
 rw[u4] at Z;have hw:aW ss p:=by
  refine⟨V,λj s U=>?_⟩;have R:=(am.mp U).1;have:=En (λj=>p.count (j+1)) (λj=>(ss.getD j []).length) ss.length (λj U=>by have:=m j U;unfold aN at this;lia) (by rw[pF _ _ V,Ab,Z]) j R;rw[this];simp[U]
 refine⟨p,hw,?_⟩;have hc:=tF ss;have hf:cE (ss.map λs=>D.lst (s.map sD)).length:=few (by rw[ai];lia);have hi:eV [↥(ss.flatten.length:Int)]=↑(bL 0 ss.flatten.length):=qh _ ∅;refine t4 (e':=[!aF ss,!↥I,↑(.ow (aX ss.length (aN ss p))),↑(.ow (iD p)),v4,v5,v6]) rfl ?_;show z4 [!aF ss,!↥Y,none,none,none,none,none]=_;unfold aF at h1 ⊢;simp only[z4,aE,bM,bP,lZ,j7,cX,aB,ij,aC,gq,bc,xj,di,ci,f9,af,ah,ae,aj,ao,au,hf,d6,hc,l,E,hi,h1]
def MD(l:g7)(z:Nat)(k:Nat):(l.take k++z::l.drop k).Perm (z::l):=by
 refine lb.trans ?_;rw[pi]
theorem ME(ok:aK ss ts)(A:∀x∈ss.flatten,i6 x)(y:ss.length<=900)(B:ss.flatten.length<=14)(I:Int):∃os,aW ss os/\zB [aF ss,↥I]=↑(.lst (iD os)):=by
 obtain⟨os,z,j⟩:=MC ss y ∅ (I / 3);have C:=z.len;have Y:bV ↥I ↥3=↑↥(I / 3):=oF ∅ ∅;have Z:aZ ↥I ↥3=↑↥(I % 3):=yn ∅;by_cases F:I % 3=1/\0<os.length
 ·have a:=M4 ok A B y
  have c:=ok.whole;have G:=c.len;generalize j6 ts=T at *;have l:aZ ↥(I / 3) ↥(T.length:Int)=↑↥(I / 3 % (T.length:Int)):=yn ∅;have J:0<=I / 3 % (T.length:Int):=ia _ ∅;have K:I / 3 % (T.length:Int)<(T.length:Int):=gi _ ∅;generalize L:(I / 3 % (T.length:Int)).toNat=k;have b:k<T.length:=by lia
  have m:I / 3 % (T.length:Int)=(k:Int):=by lia
  rw[m] at l;have n:dJ (iD T).length (k:Int)=↑k:=by rw[tu ∅ (by rw[vh];lia)];congr 1
  have d:(iD T)[k]?=↑↥(T[k]:Int):=by unfold iD;simp[b]
  have o:(iD T).eraseIdx k=iD (T.eraseIdx k):=by unfold iD;rw[zN]
  have H:(T.eraseIdx k).length=T.length-1:=List.length_eraseIdx_of_lt b;have p:T.Perm (T[k]::T.eraseIdx k):=x3 (by simp[b]);have q:cE (iD T).length:=few (by rw[vh];lia);generalize T.eraseIdx k=E at *;have e:bV ↥(I / 3) ↥14=↑↥(I / 3 / 14):=oF ∅ ∅;have U:aZ ↥(I / 3 / 14) ↥((E.length:Int)+1)=↑↥(I / 3 / 14 % ((E.length:Int)+1)):=yn ∅;have m2:0<=I / 3 / 14 % ((E.length:Int)+1):=ia _ ∅;have M:I / 3 / 14 % ((E.length:Int)+1)<(E.length:Int)+1:=gi _ ∅;generalize hi:(I / 3 / 14 % ((E.length:Int)+1)).toNat=i;have r:I / 3 / 14 % ((E.length:Int)+1)=(i:Int):=by lia
  rw[r] at U;have f:cE ((iD E).length+1):=few (by rw[vh];lia);refine⟨E.take i++T[k]::E.drop i,c.perm (p.trans (MD E T[k] i).symm),?_⟩;have g:(iD E).take i++D.int (T[k]:Int)::(iD E).drop i=iD (E.take i++T[k]::E.drop i):=by unfold iD;simp
  have V:(i:Int)<=((iD E).length:Int):=by rw[vh];lia
  have s:(0:Int)<=(i:Int):=by lia
  have t:((iD os).length:Int)=(os.length:Int):=by rw[vh]
  have u:((iD T).length:Int)=(T.length:Int):=by rw[vh]
  have v:((iD E).length:Int)=(E.length:Int):=by rw[vh]
  have h:decide (I % 3=1)=true:=by simp[F.1]
  have w:decide ((0:Int)<((iD os).length:Int))=true:=by rw[t];simp;lia
  refine kt (e':=[!aF ss,!↥I,!↥(I / 3),!(.lst (iD (E.take i++T[k]::E.drop i))),!↥(T[k]:Int)]) rfl ?_;show mP [!aF ss,!↥I,none,none,none]=_;rw[<-g];rw[<-u] at l;rw[<-v] at U;rw[<-o] at V f U ⊢;simp only[mP,aE,aG,bM,bZ,j1,aM,aD,aB,fC,gq,bc,aC,dR,aJ,ir,zf,ri,wm,mu,eU,dU,iw,af,ah,ae,aj,ao,au,Y,j,Z,h,w,d6,a,l,q,n,d,e,U,s,V,f,and_self,ft]
 ·refine⟨os,z,?_⟩
  refine kt (e':=[!aF ss,!↥I,!↥(I / 3),!.lst (iD os),none]) rfl ?_;show mP [!aF ss,!↥I,none,none,none]=_;by_cases h1:I % 3=1
  ·have h2:os.length=0:=by
    lia
   have h:decide (I % 3=1)=true:=by simp[h1]
   have w:decide ((0:Int)<((iD os).length:Int))=false:=by rw[vh,h2];rfl
   simp only[mP,aE,aG,bM,bZ,aU,aM,aD,aB,fC,gq,bc,aC,dR,aJ,ir,eU,dU,af,ah,ae,aj,ao,au,Y,j,Z,h,w,d6,du,ig]
  ·have h:decide (I % 3=1)=false:=by simp[h1]
   simp[mP,Y,j,Z,h]
theorem MF(ok:aK ss ts)(I:va [aF ss]=↑(.lst (ts.map cF)))(Y:∀x∈ss.flatten,i6 x)(Z:ss.length<=1000)(a:ss.flatten.length<=14):sS [aF ss]=↑↥(oo 0 (tk ss (j6 ts))):=by
 have D:=Aa ok I a;have V:=ok.whole;have U:=Ew V Y Z (by rw[V.len];lia);refine kt (e':=[!aF ss]) rfl ?_;show zC [!aF ss]=_;simp[zC,D,U]
def tI(p q:kn)(j:Nat):cN (p++q) j=cN p j++cN q j:=by unfold cN;rw[im,bh]
def eQ(p:kn)(j:Nat):Int:=((cN p j).flatten.length:Int)
theorem MG(p:kn)(t:Tn)(h1:1<=t.1):eQ (p++[t]) (t.1-1)=eQ p (t.1-1)+(t.2.length:Int)/\∀i,i≠t.1-1->eQ (p++[t]) i=eQ p i:=by
 unfold eQ;refine⟨?_,λi hi=>?_⟩
 ·rw[tI,mW t [] (t.1-1) ∅]
  simp[cN]
 ·rw[tI,pB t [] i ∅]
  simp[cN]
def bQ(r:kf):D:=.lst (r.map sD)
theorem MH(ok:aK ss ts)(x:ss.length<=1000)(y:ss.flatten.length<=14):sU [aF ss,.lst (ts.map cF)]=↑(.lst (ts.map λt=>bQ t.2)):=by
 have l:=ok.len;obtain⟨e',h1,v4,v5,v6,a,b,rfl⟩:=xu (ix:=[4,5,6,7]) (g:=sT) (λt:Tn=>[D.int (t.1:Int),↥(t.2.length:Int),↥(aP t.2),↥(bA t.2)])
  (λp e=>∃v4 v5 v6 a b,e=[!aF ss,!.lst (ts.map cF),↑(.ow (aX ss.length (eQ p))),↑(.ow (p.map λt=>bQ t.2)),v4,v5,v6,a,b]) ts
  [!aF ss,!.lst (ts.map cF),↑(.ow (aX ss.length (eQ []))),↑(.ow []),none,none,none,none,none] ⟨none,none,none,none,none,rfl⟩ (λ_ _=>rfl) (by
   rintro p t q e V ⟨v4,v5,v6,a,b,rfl⟩;obtain⟨m,z⟩:=ok.lo t (by rw[V];simp);obtain⟨n,o⟩:=MG p t m;have r:(t.1:Int)-1=((t.1-1:Nat):Int):=by lia
   have c:=mY ss.length (eQ p) (t.1-1) ∅;have d:dJ (aX ss.length (eQ p)).length ((t.1-1:Nat):Int)=↑(t.1-1):=by
    rw[tu ∅ (by rw[zp];lia)];congr 1
   have U:=pG ss.length (eQ p) (eQ (p++[t])) (t.1-1) (λi _ hi=>o i hi);rw[n] at U;have Y:t.1-1<ss.length:=by lia
   have k:=ok.part (t.1-1) ss[t.1-1] (by simp[Y]);rw[V,tI,mW t q (t.1-1) ∅,fm,de] at k;have f:bJ (ss.map λs=>D.lst (s.map sD)) ((t.1-1:Nat):Int)=↑(.lst (ss[t.1-1].map sD)):=md (λs:kf=>D.lst (s.map sD)) (by simp[Y]);have I:=L_ ((cN p (t.1-1)).flatten.map sD) (t.2.map sD) ((cN q (t.1-1)).flatten.map sD);rw[<-bh,<-bh,k,ai,ai] at I;have u:eQ p (t.1-1)=((cN p (t.1-1)).flatten.length:Int):=rfl;rw[<-u] at I;have v:p.length<=ts.length:=by rw[V];simp
   have h:cE ((p.map λt=>bQ t.2).length+1):=few (by rw[ai];lia);rw[<-U,bh,bq,di];unfold aF;generalize (p.map λt=>bQ t.2)=M at *;have j:D.lst (t.2.map sD)=bQ t.2:=rfl;simp[ql,sT,r,c,d,f,I,j,h])
 have w:qy cG [:0] [] (ss.map λs=>D.lst (s.map sD))=↑(aX ss.length (eQ [])):=by
  rw[Er];congr 1
 have h:cE (ss.map λs=>D.lst (s.map sD)).length:=few (by rw[ai];lia);refine kt (e':=[!aF ss,!.lst (ts.map cF),↑(.ow (aX ss.length (eQ ts))),!(.lst (ts.map λt=>bQ t.2)),v4,v5,v6,a,b]) rfl ?_;show zD [!aF ss,!.lst (ts.map cF),none,none,none,none,none,none,none]=_;have Z:fX [4,5,6,7] sT (ts.map cF) [!aF ss,!.lst (ts.map cF),↑(.ow (aX ss.length (eQ []))),↑(.ow []),none,none,none,none,none]=_:=h1;unfold aF at Z ⊢;generalize (ss.map λs=>D.lst (s.map sD))=L at *;simp[zD,j7,h,w,Z]
def wy(r p:kf):g8:=(List.range p.length).map λi=>bA r*aP (p.take (i+1))-bA (p.take (i+1))*aP r
theorem MI(r p:kf)(x:Sk):wy r (p++[x])=wy r p++[bA r*aP (p++[x])-bA (p++[x])*aP r]:=by
 unfold wy;rw[ak,d5,gg,bh];congr 1
 ·apply jx
  intro i hi;have hi:i<p.length:=ff.mp hi;rw[jd ∅]
 ·simp
  rw[jf ⋯]
def Al(r p:kf):(wy r p).length=p.length:=by simp[wy]
def cU(r:kf):g8:=wy r r.dropLast
theorem MJ(a:i0):cutD a none ↑(-1)=a.dropLast:=by
 unfold cutD;rw[HT.sIx_none];have:HT.sIx a.length a.length ↑(-1)=a.length-1:=by
  unfold HT.sIx;dsimp only;rw[ax ∅]
  lia
 rw[this,pq];simp
theorem MK(r:kf)(a:∀x∈r,i6 x)(k:r.length<=14):sV [.tup [↥(aP r),↥(bA r)],bQ r]=↑(.lst ((cU r).map D.int)):=by
 have b:=mT r a ∅;obtain⟨e',h1,v5,rfl⟩:=vp (i:=5) (g:=zE) sD (λp e=>∃v5,e=[!(.tup [↥(aP r),↥(bA r)]),!bQ r,↑(.ow ((wy r p).map D.int)),!↥(aP p),!↥(bA p),v5]) r.dropLast
  [!(.tup [↥(aP r),↥(bA r)]),!bQ r,↑(.ow []),!↥0,!↥0,none] ⟨none,rfl⟩ (by
   rintro p x q e V ⟨v5,rfl⟩;have c:aP (p++[x])=aP p+x.2.1:=by rw[ui];simp[aP]
   have d:bA (p++[x])=bA p+x.2.2:=by rw[xp];simp[bA]
   have f:p.length+1<=r.length:=by
    have:=congrArg List.length V;simp at this
    lia
   have Y:∀y∈p++[x],i6 y:=λy h=>a y (List.dropLast_subset r (by rw[V];rw[show p++x::q=(p++[x])++q by simp];exact d8 _ h));have Z:=mT (p++[x]) Y (by simp;lia);have I:=sY (aP r) (bA r) (aP (p++[x])) (bA (p++[x])) b.2 Z.2;have j:cE (((wy r p).map D.int).length+1):=few (by rw[ai,Al];lia);rw[MI,bh,bq,di];rw[c,d] at I ⊢;generalize (wy r p).map D.int=M at *;simp[zE,tH,Aj,I,j])
 refine kt (e':=[!(.tup [↥(aP r),↥(bA r)]),!bQ r,!.lst ((cU r).map D.int),!↥(aP r.dropLast),!↥(bA r.dropLast),v5]) rfl ?_;show zF [!(.tup [↥(aP r),↥(bA r)]),!bQ r,none,none,none,none]=_;have U:=MJ (r.map sD);rw[<-List.map_dropLast] at U;unfold bQ at h1 ⊢;unfold cU;simp only[zF,aE,aG,bM,bP,aM,ij,aC,fC,cX,aL,gG,gP,gB,iN,fO,aB,af,ah,ae,aj,ao,au,ci,f9,d6,U,h1]
def k8(ss:kl)(p:g7):kl:=(List.range ss.length).map λj=>(ss.getD j []).drop (p.count (j+1))
def ML(ss:kl):k8 ss []=ss:=by
 unfold k8;apply eo;intro i;by_cases h:i<ss.length
 ·simp[h]
 ·simp[h]
theorem MM(V:aW ss (p++a::q)) :
  ∃r:kf,(k8 ss p)[a-1]?=↑(xk ss a (p.count a)::r)/\(k8 ss p).set (a-1) r=k8 ss (p++[a]):=by
 obtain⟨s,Y,I,U,Z,b⟩:=V.at;have hd:s.drop (p.count a)=xk ss a (p.count a)::s.drop (p.count a+1):=by
  rw[iu I];rw[aq I] at U;rw[b9 U]
 have D:ss.getD (a-1) []=s:=by rw[aw,Y];rfl
 refine⟨s.drop (p.count a+1),?_,?_⟩
 ·unfold k8
  rw[bj,i8 ∅,aj,D,show a-1+1=a by lia,hd]
 ·apply eo
  intro i;unfold k8;rw[jo];by_cases hi:i<ss.length
  ·by_cases e:a-1=i
   ·subst e
    simp only[ai,jm,hi,d6];rw[bj,i8 hi,aj,D,mZ,ax ∅,show a-1+1=a by lia]
   ·rw[cb e,bj,bj,i8 hi,aj,aj,mZ,cb ∅];rfl
  ·by_cases e:a-1=i
   ·subst e;lia
   ·rw[cb e,cq (by simp;lia),cq (by simp;lia)]
def Ez{α:Type}:∀ {l:List (List α)} {j:Nat} {r:List α} {x:α},l[j]?=↑(x::r)->l.flatten.Perm (x::(l.set j r).flatten)
 |s::l,0,r,x,h=>by
   have h:s=x::r:=by simpa using h
   subst h;exact List.Perm.refl _
 |s::l,j+1,r,x,h=>by
   have D:=Ez (l:=l) (j:=j) (r:=r) (x:=x) (by simpa using h);exact(ky s D).trans lb
def MN(U:aW ss os):∀p:g7,∀q,os=p++q->(tk ss p++(k8 ss p).flatten).Perm ss.flatten:=by
 apply Eo
 ·intro q _
  rw[ML];exact List.Perm.refl _
 ·intro p a V q D
  rw[cx,gm] at D;obtain⟨r,h1,h2⟩:=MM (D ▸ U);have I:=Ez h1;rw[h2] at I;rw[Ac,cx];exact(ky _ I.symm).trans (V (a::q) D)
def MO(I:aW ss os):(k8 ss os).flatten=[]:=by
 apply List.flatten_eq_nil_iff.mpr;intro l U;obtain⟨j,D,rfl⟩:=dz.mp U;have D:j<ss.length:=ff.mp D;rw[I.cnt j ss[j] (by simp[D])];simp[D]
def tJ(D:aW ss os):(tk ss os).Perm ss.flatten:=by
 have:=MN D os [] ⋯;rw[MO D,c8] at this;exact this
def tK(D:aW ss os)(nd:(ss.flatten.map (·.1)).Nodup):((tk ss os).map (·.1)).Nodup:=((tJ D).map (·.1)).nodup_iff.mpr nd
def Am{α:Type}{te:FE}{n:Nat}{base:aQ}(I:α->i0)(ψ:α->D):∀(xs:List α),(∀x∈xs,(I x).length=n)->(∀x∈xs,∃e',te (ql (List.range n) (I x) (List.replicate n none++base))=↑(ψ x,e')) ->
  zd cG te n base (xs.map λx=>D.tup (I x))=↑(xs.map ψ)
 | [],_,_=>rfl |x::xs,hl,h=>by
   obtain⟨e',h1⟩:=h x bi;have V:=Am I ψ xs (λy U=>hl y (ay _ U)) (λy U=>h y (ay _ U));rw[bq,zd];have Y:kX (List.range n) (.tup (I x)) (List.replicate n none++base)=↑(ql (List.range n) (I x) (List.replicate n none++base)):=by
    show(if (I x).length=(List.range n).length then ↑(ql (List.range n) (I x) (List.replicate n none++base)) else none)=_;rw[ax (by rw[hl x bi,jm])]
   simp[Y,h1,V]
def E1{α:Type}(k:α->Int)(v:α->D):∀xs:List α,dY (xs.map λx=>D.tup [↥(k x),v x])=↑(xs.map λx=>(k x,v x))
 | []=>rfl |x::xs=>by rw[bq,dY,E1 k v xs];rfl
def E2(k:α->Int)(v:α->D)(xs:List α)(nd:(xs.map k).Nodup):zb [.lst (xs.map λx=>D.tup [↥(k x),v x])]=↑(.dct (xs.map k) (xs.map v)):=by
 unfold zb;simp only[E1,ae,dq];have I:((λx:Int×D=>x.1) ∘ λx=>(k x,v x))=k:=rfl;have U:((λx:Int×D=>x.2) ∘ λx=>(k x,v x))=v:=rfl;rw[I,U,ax nd]
def An{α:Type}(k:α->Int)(v:α->D):∀(xs:List α),(xs.map k).Nodup->∀x∈xs,xi (xs.map k) (xs.map v) (k x)=↑(v x)
 |y::xs,nd,x,h=>by
   rw[bq,bq,xi];rw[bq,c7] at nd;rcases cf.mp h with rfl |h
   ·rw[ax rfl]
   ·rw[cb (λe=>nd.1 (by rw[e];exact dz.mpr ⟨x,h,rfl⟩))]
    exact An k v xs nd.2 x h
def bU(T:kf):D:=.dct (T.map (·.1)) ((List.range T.length).map λi:Nat=>D.int (i:Int))
def Ao(T:List α):(T.zipIdx 0).map (·.1)=T:=by simp
def E3{β:Type}(f:Nat->β)(T:List α):(T.zipIdx 0).map (λp=>f p.2)=(List.range T.length).map f:=by
 apply eo;intro i;rw[bj,bj,ju];by_cases h:i<T.length
 ·simp[h]
 ·simp[h]
theorem tL(T:kf)(nd:(T.map (·.1)).Nodup)(a:T.length<=1000):mR [.lst (T.map sD)]=↑(bU T):=by
 have c:=Am (te:=bH (bc (e9 pd (bc (aB 1) (aC))) (bc (aB 0) (aC)))) (n:=2) (base:=[]) (λx:Sk×Nat=>[D.int (x.2:Nat),sD x.1]) (λx:Sk×Nat=>D.tup [↥x.1.1,↥(x.2:Nat)]) (T.zipIdx 0) (λ_ _=>rfl) (λx _=>⟨[!↥(x.2:Nat),!sD x.1],by
  simp[List.range,List.range.loop,ql,wq]⟩)
 have V:gX 0 [.lst (T.map sD)]=↑((T.zipIdx 0).map λp=>D.tup [↥(p.2:Nat),sD p.1]):=by
  show ↑(qx 0 (T.map sD))=_;rw[mU]
 have I:(T.zipIdx 0).map (λx:Sk×Nat=>x.1.1)=T.map (·.1):=by
  have:=congrArg (List.map λx:Sk=>x.1) (Ao T);rw[dq] at this;exact this
 have Y:(T.zipIdx 0).map (λx:Sk×Nat=>D.int (x.2:Nat))=(List.range T.length).map λi:Nat=>D.int (i:Int):=E3 (λi:Nat=>D.int (i:Int)) T;have U:=E2 (λx:Sk×Nat=>x.1.1) (λx:Sk×Nat=>D.int (x.2:Nat)) (T.zipIdx 0) (by rw[I];exact nd);rw[I,Y] at U;have Z:cE ((T.zipIdx 0).map λp:Sk×Nat=>D.tup [↥(p.2:Nat),sD p.1]).length:=few (by simp;lia);refine kt (e':=[!.lst (T.map sD)]) rfl ?_;show zH [!.lst (T.map sD)]=_;simp only[zH,aM,e9,bc,aC,aL,mx,gq,aB,af,ae,aj,V,Z,d6,di,c,U,bU]
theorem E4{α:Type}[DecidableEq α]:∀(T:List α) (c:Nat),T.Nodup->∀x,x∈T.zipIdx c->x.2=c+T.idxOf x.1
 |y::T,c,nd,x,h=>by
   rw[c7] at nd;rcases cf.mp h with rfl |h
   ·simp
   ·have D:=E4 T (c+1) nd.2 x h
    have I:x.1∈T:=(List.mem_zipIdx h).2.2 ▸ gk _;rw[List.idxOf_cons];have:(y==x.1)=false:=by
     rw[beq_eq_false_iff_ne];intro e;exact nd.1 (e ▸ I)
    rw[this,D];simp only[cond_false]
    lia
def aV(T:kf)(k:Int):Int:=((T.map (·.1)).idxOf k:Nat)
variable{T:kf}{x:Sk}
def tM(nd:(T.map (·.1)).Nodup)(I:x∈T):ud (bU T) ↥x.1=↑↥(aV T x.1):=by
 show xi (T.map (·.1)) ((List.range T.length).map λi:Nat=>D.int (i:Int)) x.1=_;have U:x.1∈T.map (·.1):=dz.mpr ⟨x,I,rfl⟩;have V:∃i,(x.1,i)∈(T.map (·.1)).zipIdx 0:=by
  obtain⟨i,hi,e⟩:=lr U;exact⟨i,List.mem_zipIdx_iff_getElem?.mpr (by rw[<-e];exact aq hi)⟩
 obtain⟨i,hi⟩:=V;have h1:=E4 _ 0 nd _ hi;have h2:=An (λp:Int×Nat=>p.1) (λp:Int×Nat=>D.int (p.2:Int)) ((T.map (·.1)).zipIdx 0) (by rw[Ao];exact nd) (x.1,i) hi;rw[Ao] at h2;have Y:((T.map (·.1)).zipIdx 0).map (λp:Int×Nat=>D.int (p.2:Int))=(List.range T.length).map λi:Nat=>D.int (i:Int):=by
  rw[E3 (λi:Nat=>D.int (i:Int)) (T.map (·.1)),ai]
 rw[Y] at h2;rw[h2];unfold aV;rw[h1,lw]
def iZ(x y:Sk):Int:=x.2.2*y.2.1-y.2.2*x.2.1
def eF(pos:Int->Int)(x:Sk)(q:kf):List g8:=(q.filter λy=>decide (pos y.1<pos x.1)).map λy=>[x.1,y.1,iZ x y]
def MP(pos:Int->Int)(x:Sk)(p:kf)(y:Sk):eF pos x (p++[y])=eF pos x p++if pos y.1<pos x.1 then[[x.1,y.1,iZ x y]] else[]:=by
 unfold eF;by_cases h:pos y.1<pos x.1
 ·simp[h]
 ·simp[h]
def E5(pos:Int->Int)(x:Sk)(q:kf):(eF pos x q).length<=q.length:=by
 unfold eF;rw[ai];exact pj _ _
def hO(pos:Int->Int)(T:kf)(n:Nat):List g8:=(List.range n).flatMap λi=>eF pos (T.getD i (0,0,0)) (T.drop (i+1))
def E6(pos:Int->Int)(T:kf)(n:Nat):hO pos T (n+1)=hO pos T n++eF pos (T.getD n (0,0,0)) (T.drop (n+1)):=by
 unfold hO;rw[gg,List.flatMap_append];simp
variable{q:kf}{p:List Hs}
def MQ(pos:Int->Int){p:kf}(h:T=p++x::q):hO pos T (p.length+1)=hO pos T p.length++eF pos x q:=by
 rw[E6,h];simp[aw]
theorem E7(pos:Int->Int)(T:kf):∀n,(hO pos T n).length<=n*T.length
 |0=>by simp[hO] |n+1=>by
   rw[E6,ak];have h1:=E7 pos T n;have h2:=E5 pos (T.getD n (0,0,0)) (T.drop (n+1));rw[e8] at h2;rw[Nat.succ_mul]
   lia
def MR(x:Sk):mQ [sD x]=↑(.tup [↥x.2.1,↥x.2.2]):=by
 refine kt (e':=[!sD x]) rfl ?_;show zG [!sD x]=_;simp[zG,tH,Aj]
def MS(a b:i0)(x:D):cutD (a++x::b) ↑((a.length:Int)+1) none=b:=by
 have:=zX (a++[x]) b;rw[cx,gm,ak,d5] at this;exact this
variable{S:kf}
theorem MT{ST OR:D}(nd:(S.map (·.1)).Nodup)(c:x∈S)(h:∀y∈q,y∈S)(d:∀y∈S,i6 y)(I:i0)(u:I.length<=1000)(j:q.length<=1000)(v5:j0)(V U:j0) :
  ∃k l,bW 7 p6 (q.map sD) [!ST,!OR,!bU S,!.lst (T.map sD),↑(.ow I),v5,!sD x,V,U] =
   ↑(.nx,[!ST,!OR,!bU S,!.lst (T.map sD),↑(.ow (I++(eF (aV S) x q).map iT)),v5,!sD x,k,l]):=by
 have m:n8 x.2.2:=by have:=d x c;exact qa (by unfold i6 at this;lia)
 have px:=tM nd c;obtain⟨e',h1,a,b,rfl⟩:=vp (i:=7) (g:=p6) sD (λp e=>∃V U,e=[!ST,!OR,!bU S,!.lst (T.map sD),↑(.ow (I++(eF (aV S) x p).map iT)),v5,!sD x,V,U]) q
  [!ST,!OR,!bU S,!.lst (T.map sD),↑(.ow I),v5,!sD x,V,U] ⟨V,U,by simp[eF]⟩ (by
   rintro p y r e Y ⟨V,U,rfl⟩;have f:y∈S:=h y (by rw[Y];simp);have py:=tM nd f;have n:n8 y.2.2:=by have:=d y f;exact qa (by unfold i6 at this;lia)
   have o:p.length<=1000:=by have:=congrArg List.length Y;simp at this;lia
   have s:cE ((I++(eF (aV S) x p).map iT).length+1):=few (by have:=E5 (aV S) x p;simp;lia);have t:=sY x.2.1 x.2.2 y.2.1 y.2.2 m n;rw[MP,bh];by_cases Z:aV S y.1<aV S x.1
   ·refine⟨[!ST,!OR,!bU S,!.lst (T.map sD),↑(.ow (I++((eF (aV S) x p).map iT++[.tup [↥x.1,↥y.1,↥(iZ x y)]]))),v5,!sD x,!sD y,!↥(iZ x y)],?_,_,_,by rw[ax Z];rfl⟩
    rw[<-cx];generalize I++(eF (aV S) x p).map iT=M at *;simp[p6,wq,px,py,il Z,MR,t,s,iZ]
   ·refine⟨[!ST,!OR,!bU S,!.lst (T.map sD),↑(.ow (I++((eF (aV S) x p).map iT++[]))),v5,!sD x,!sD y,U],?_,_,_,by rw[cb Z];rfl⟩
    simp[p6,wq,px,py,dw Z])
 exact⟨a,b,h1⟩
theorem MU(ok:aK ss ts)(i:va [aF ss]=↑(.lst (ts.map cF)))(Y:aW ss os)(f:jH 14 ss) :
  DL [aF ss,.lst (iD os)]=↑(.lst ((hO (aV (tk ss os)) (tk ss (j6 ts)) (tk ss (j6 ts)).length).map iT)):=by
 have C:=f.many;have Z:=f.tot;have j:=vw Y ∅ (by rw[Y.len];lia);have k:=vw ok.whole ∅ (by rw[ok.whole.len];lia);have l:=Aa ok i Z;have nd:=tK Y f.nd;have s:(tk ss os).length<=14:=by rw[zj,Y.len];lia
 have m:(tk ss (j6 ts)).length<=14:=by rw[zj,ok.whole.len];lia
 have V:=tL (tk ss os) nd ∅;have U:∀y∈tk ss (j6 ts),y∈tk ss os:=λy a=>(tJ Y).mem_iff.mpr ((tJ ok.whole).mem_iff.mp a);have t:∀y∈tk ss os,i6 y:=λy a=>f.good y (Y.sk y a);generalize hT:tk ss (j6 ts)=T at *;generalize E:tk ss os=S at *;obtain⟨e',h1,v5,v6,b,c,rfl⟩:=xu (ix:=[5,6]) (g:=sW) (λx:Sk×Nat=>[D.int (x.2:Nat),sD x.1]) (λp e=>∃v5 v6 b c,e=[!aF ss,!.lst (iD os),!bU S,!.lst (T.map sD),↑(.ow ((hO (aV S) T p.length).map iT)),v5,v6,b,c]) (T.zipIdx 0)
  [!aF ss,!.lst (iD os),!bU S,!.lst (T.map sD),↑(.ow []),none,none,none,none] ⟨none,none,none,none,rfl⟩ (λ_ _=>rfl) (by
   rintro p ⟨x,n⟩ r e hpr ⟨v5,v6,b,c,rfl⟩;have I:T=p.map (·.1)++x::r.map (·.1):=by
    have:=congrArg (List.map (·.1)) hpr;simpa using this
   have u:n=p.length:=by
    have:(T.zipIdx 0)[p.length]?=↑(x,n):=by rw[hpr];simp
    rw[ju] at this;cases h:T[p.length]? with
    |none=>rw[h] at this;cases this
    |some y=>rw[h] at this;simp at this;lia
   subst u;have V:p.length<=14:=by have:=congrArg List.length I;simp at this;lia
   have v:(r.map (·.1)).length<=14:=by have:=congrArg List.length I;simp at this;simp;lia
   have w:(hO (aV S) T p.length).length<=1000:=by
    have:=E7 (aV S) T p.length;have:p.length*T.length<=14*14:=Nat.mul_le_mul V m
    lia
   obtain⟨z,A,h2⟩:=MT (ST:=aF ss) (OR:=.lst (iD os)) (T:=T) (x:=x) (q:=r.map (·.1)) nd (U x (by rw[I];simp)) (λy a=>U y (by rw[I];exact cg _ (ay _ a))) t ((hO (aV S) T p.length).map iT) (by rw[ai];exact w) ∅ ⇑↥(p.length:Nat) b c;have o:hO (aV S) T (p++[(x,p.length)]).length=hO (aV S) T p.length++eF (aV S) x (r.map (·.1)):=by
    have:=MQ (aV S) I;rw[ai] at this;rw[ak,d5,this]
   have d:cutD (T.map sD) ↑((p.length:Int)+1) none=(r.map (·.1)).map sD:=by
    have:=MS ((p.map (·.1)).map sD) ((r.map (·.1)).map sD) (sD x);rw[ai,ai] at this;rw[I,bh,bq];exact this
   rw[o,bh];refine⟨_,?_,!↥(p.length:Nat),!sD x,z,A,rfl⟩;rw[<-h2];simp[ql,sW,d])
 rw[List.length_zipIdx] at h1;have B:gX 0 [.lst (T.map sD)]=↑((T.zipIdx 0).map λp=>D.tup [↥(p.2:Nat),sD p.1]):=by
  show ↑(qx 0 (T.map sD))=_;rw[mU]
 refine kt (e':=[!aF ss,!.lst (iD os),!bU S,!.lst (T.map sD),!.lst ((hO (aV S) T T.length).map iT),v5,v6,b,c]) rfl ?_;show pA [!aF ss,!.lst (iD os),none,none,none,none,none,none,none]=_;simp only[pA,aE,aG,bM,p8,aM,ij,aC,gq,e9,bc,aB,aL,af,ah,ae,aj,ao,au,ci,f9,d6,j,l,k,V,B,h1]
theorem MV(f:α->Int){l D:List α}(p:l.Perm D):(l.map f).sum=(D.map f).sum:=by
 induction p with
 |nil=>rfl |cons x _ ih=>simp[gc,ih] |swap x y l=>simp[gc];lia
 |trans _ _ h1 h2=>rw[h1,h2]
def r3(r:g8):Int:=r.getD 2 0
def srt(r:g8):g8:=[if r.getD 0 0<=r.getD 1 0 then r.getD 0 0 else r.getD 1 0,if r.getD 0 0<=r.getD 1 0 then r.getD 1 0 else r.getD 0 0]
def fS(f:α->Int)(l:List α):Int:=(l.map f).sum
def E8(f:α->Int):fS f []=0:=rfl
def E9(f:α->Int)(x:α)(l:List α):fS f (x::l)=f x+fS f l:=by simp[fS]
def EA(f:α->Int)(l D:List α):fS f (l++D)=fS f l+fS f D:=by simp[fS]
def PS(w C:Sk->Int)(P:Int):kf->Int
 |x::y::r=>-(P+w x)*(C y-C x-y.2.1)+PS w C (P+w x) (y::r) |_=>0
theorem MW(l:kl):(l.map λs:kf=>(s.length:Int)).sum=(l.flatten.length:Int):=by
 induction l with
 |nil=>rfl |cons a l ih=>rw[bq,gc,ih,de,ak];lia
theorem MX(ss:kl)(V:ss.length<=1000):zJ [aF ss]=↑↥(ss.flatten.length:Int):=by
 have c:=vt (te:=ir 0) (base:=[]) (λs:kf=>D.lst (s.map sD)) (λs:kf=>D.int (s.length:Int)) ss λs _=>⟨_,by simp;rfl⟩;have I:=DV (λs:kf=>(s.length:Int)) ss;have U:cE (ss.map λs=>D.lst (s.map sD)).length:=few (by rw[ai];lia);rw[MW] at I;refine kt (e':=[!aF ss]) rfl ?_;show zI [!aF ss]=_;unfold aF;generalize (ss.map λs=>D.lst (s.map sD))=L at *;simp[zI,j7,U,c,I]
theorem Ap(h:ss[a-1]?=↑s)(I:1<=a):bJ (ss.map λs=>D.lst (s.map sD)) ((a:Int)-1)=↑(.lst (s.map sD)):=by
 rw[show((a:Int)-1)=((a-1:Nat):Int) by lia];exact md _ h
def MY(l:List α)(k:Nat)(x:α)(h:k<l.length):l.take k++[x]++l.drop (k+1)=l.set k x:=by
 rw[List.set_eq_take_append_cons_drop,ax h];simp
def MZ(l:i0)(k:Nat)(h:k<=l.length):cutD l none ↑(k:Int)=l.take k:=by
 have:=Mm (l.take k) (l.drop k);simp_all
def EB(l:i0)(k:Nat)(h:k<=l.length):cutD l ↑(k:Int) none=l.drop k:=by
 have:=zX (l.take k) (l.drop k);rwa [pi,fo,Nat.min_eq_left h] at this
theorem M_(s:kf)(c:1<=a)(d:a<=ss.length)(e:ss.length<=1000):sX [aF ss,↥(a:Int),.lst (s.map sD)]=↑(aF (ss.set (a-1) s)):=by
 have f:(ss.map λs=>D.lst (s.map sD)).length=ss.length:=ai ..;have U:=MZ (ss.map λs=>D.lst (s.map sD)) (a-1) ∅;have V:=EB (ss.map λs=>D.lst (s.map sD)) a ∅;have Y:((a:Int)-1)=((a-1:Nat):Int):=by lia
 have I:=MY (ss.map λs=>D.lst (s.map sD)) (a-1) (D.lst (s.map sD)) ∅;rw[show a-1+1=a by lia] at I;have Z:cE ((((ss.map λs=>D.lst (s.map sD)).take (a-1)).length)+(0+1)):=few (by simp only[fo];lia);have f2:cE (((ss.map λs=>D.lst (s.map sD)).take (a-1)++[D.lst (s.map sD)]).length+((ss.map λs=>D.lst (s.map sD)).drop a).length):=few (by simp[fo,e8];lia);have b:aF (ss.set (a-1) s)=.lst ((ss.map λs=>D.lst (s.map sD)).set (a-1) (D.lst (s.map sD))):=by unfold aF;rw[kq]
 refine kt (e':=[!aF ss,!↥(a:Int),!.lst (s.map sD)]) rfl ?_;show zK [!aF ss,!↥(a:Int),!.lst (s.map sD)]=_;rw[b,<-I];unfold aF;generalize s.map sD=M at *;simp only[zK,aM,aL,cW,gG,gP,gB,ij,bc,aC,aB,aD,fC,bO,Y,af,ah,ae,aj,U,V,Z,f2,d6,bf,ci,show(0+1<=64)=True by simp]
variable{B:j0}
theorem Na{p:kf}{B:kf}(h:B=p++b)(g:Good B):¬gt (bN B) (bN b):=by
 have h1:=g.beg p ⟨b,h.symm⟩;have D:aP B=aP p+aP b:=by rw[h,ui]
 have I:bA B=bA p+bA b:=by rw[h,xp]
 show ¬bA b*aP B<bA B*aP b;rw[D,I] at h1 ⊢
 lia
theorem Nb(a:Nat)(D:kl)(j:Nat):cN (D.map λb=>(a,b)) j=if a=j+1 then D else[]:=by
 unfold cN;induction D with
 |nil=>simp |cons b r ih =>
   grind
def Nc(a:Nat)(D:kl):j6 (D.map λb=>(a,b))=List.replicate D.flatten.length a:=by
 unfold j6;induction D with
 |nil=>simp |cons b r ih =>
   simp_all
theorem Nd(ok:aK ss ((a,x::r)::ts))(B:∀y∈ss.flatten,i6 y)(l:ss.flatten.length<=14) :
  ∃tl Z,ss[a-1]?=↑(x::tl)/\1<=a/\a<=ss.length/\aK (ss.set (a-1) tl) Z/\j6 Z=List.replicate r.length a++j6 ts/\(Z.map (·.2)).flatten=r++(ts.map (·.2)).flatten:=by
 have lo:=ok.lo (a,x::r) ⋯;have J:=ok.good (a,x::r) ⋯;have d:=ok.sk B (a,x::r) ⋯;have m:=ok.len1 (a,x::r) ⋯;have o:=ok.left;have U:=Eb (n:=ss.length) (t:=(a,x::r)) (ts:=ts) lo.1 lo.2;rw[o] at U;obtain⟨I,V,_⟩:=DT r (λy p=>d y (by simp[p])) (by rw[bf] at m;lia);have pos:∀b∈I,0<aP b:=λb D=>wj b (λy p=>d y (ay _ (by rw[<-V.flat];exact fy.mpr ⟨b,by simpa using D,p⟩))) (V.good b D).ne;have q:0<aP (x::r):=wj _ d ⋯;have C:=zV I V.desc pos;have E:∀b∈I,¬gt (bN (x::r)) (bN b):=by
  cases I with
  |nil=>intro b D;cases D
  |cons bl rs' =>
    have v:x::r=(x::rs'.reverse.flatten)++bl:=by rw[<-V.flat];simp
    have F:=Na v J;intro b D;rcases cf.mp D with rfl |hb'
    ·exact F
    ·exact DX (pos b D) (pos bl ⋯) q (λz=>yi ((gh.mp C).1 b hb') z) F
 have i:=ok.srt;obtain⟨w,A⟩:=gh.mp i;have k:∀t∈I.reverse.map (λb=>(a,b))++ts,1<=t.1/\t.1<=ss.length:=λt f=>by
  rcases dc.mp f with h |h
  ·obtain⟨b,_,rfl⟩:=dz.mp h;exact lo
  ·exact ok.lo t (by simp[h])
 have g:jv ss.length (I.reverse.map (λb=>(a,b))++ts)=ss.set (a-1) (r++(cN ts (a-1)).flatten):=by
  apply eo;intro j;by_cases Y:j<ss.length
  ·rw[ul Y,jo,tI,Nb]
   by_cases e:a-1=j
   ·subst e
    rw[ax ∅,ax rfl,ax Y,fm,V.flat]
   ·rw[cb ∅,cb e]
    have:=ok.part j ss[j] (by simp[Y]);rw[pB _ _ _ (by simp;lia)] at this;simp[this,Y]
  ·rw[cq (by rw[qj];lia),cq (by rw[d7];lia)]
 refine⟨r++(cN ts (a-1)).flatten,I.reverse.map (λb=>(a,b))++ts,U,lo.1,lo.2,?_,?_,?_⟩
 ·rw[<-g]
  refine⟨λt f=>by rw[qj];exact k t f,λt f=>?_,λj s Y=>?_,?_,zW k⟩
  ·rcases dc.mp f with h |h
   ·obtain⟨b,D,rfl⟩:=dz.mp h;exact V.good b (by simpa using D)
   ·exact ok.good t (by simp[h])
  ·have l:=(am.mp Y).1
   rw[qj] at l;rw[ul l] at Y;exact b9 Y
  ·rw[jt]
   refine⟨?_,A,λt f u G=>?_⟩
   ·rw[List.pairwise_map,List.pairwise_reverse]
    exact C.imp λh=>.inl h
   ·obtain⟨b,D,rfl⟩:=dz.mp f
    have D:b∈I:=by simpa using D
    have H:0<aP u.2:=ok.pos B u (by simp[G]);rcases w u G with z | ⟨z1,z2⟩
    ·exact .inl (Ma (n:=bN b) (c:=bN (x::r)) (b:=bN u.2) (pos b D) q H (E b D) z)
    ·exact .inr ⟨DX (n:=bN b) (c:=bN (x::r)) (b:=bN u.2) (pos b D) q H (E b D) z1,z2⟩
 ·rw[xv,Nc,V.flat]
 ·rw[bh,fm,dq]
  show((I.reverse.map λb=>b).flatten)++_=_;rw[List.map_id',V.flat]
def pH:FS:=bZ (gK (aJ (aD fB (aB 1) [:1])) (aJ (aD dU (aB 1) (ir 0)))) (qz "UnknownStack" (some)) (aU)
def m_:ka->i0->jj:=cB 2 0 2 pH
def yt:ka->i0->h7:=xQ 2 0 2 pH
def Aq:FS:=bZ (gK (aJ (aD fB (aB 0) [:0])) (aJ (aD dU (aB 0) [:5]))) (qz "BadCount" ((λz=>(↑z).bind ((λz=>((vInt [:5]) z).bind ((λz=>(↑z).bind (some)))))))) (aU)
def tN:ka->i0->jj:=cB 1 0 1 Aq
def tO:ka->i0->h7:=xQ 1 0 1 Aq
def Ar:FS:=bZ (gK (aJ (aD fB (aB 0) [:1])) (aJ (aD dU (aB 0) [:60]))) (qz "BadHours" ((λz=>(↑z).bind ((λz=>((vInt [:60]) z).bind ((λz=>(↑z).bind (some)))))))) (aU)
def tP:ka->i0->jj:=cB 1 0 1 Ar
def tQ:ka->i0->h7:=xQ 1 0 1 Ar
def As:FS:=bZ (gK (aJ (aD fB (aB 0) [:0])) (aJ (aD dU (aB 0) [:100]))) (qz "BadLoss" ((λz=>(↑z).bind ((λz=>((vInt [:100]) z).bind (some)))))) (aU)
def tR:ka->i0->jj:=cB 1 0 1 As
def tS:ka->i0->h7:=xQ 1 0 1 As
def tT:FS:=bZ (aJ (aD jN (e9 zJ (bc (aB 0) (aC))) [:14])) (qz "HouseFull" ((λz=>((vInt [:14]) z).bind ((λz=>(↑z).bind (some)))))) (aU)
def tU:ka->i0->jj:=cB 1 0 1 tT
def nb:ka->i0->h7:=xQ 1 0 1 tT
def tW:FS:=bZ (aJ (aD jN (ir 0) [:60])) (qz "DeedsFull" ((λz=>((vInt [:60]) z).bind ((λz=>(↑z).bind (some)))))) (aU)
def tX:ka->i0->jj:=cB 1 0 1 tW
def ng:ka->i0->h7:=xQ 1 0 1 tW
def EC:FS:=aM (aD iw [:1] (e9 hZ (bc (aL (j7 (cX (aB 0)) [] (aJ (aD eU (aH 0 [:0]) (fC (.str "put")))) (aB 0))) (aC))))
def tY:i0->jj:=aR 1 1 EC
def tZ:FS:=aE (cQ (me tO [] (bc (aB 1) (aC))) (j1 (lh tN [] (bc (aB 1) (aC))))) (aE (oR 0 "House" "kept" (ij (aC))) (oR 0 "House" "states" (ij (bc (bH (bc (aL (j7 (gq eV (bc (aB 1) (aC))) [] cG (aL (ij (aC))))) (bc (aL (ij (aC))) (aC)))) (aC)))))
def pI:ka->i0->kb:=fR 2 1 1 tZ
def Au:ka->i0->Option (Str×ka):=xL 2 1 1 tZ
def Av:FS:=aM (aD cV (mH (.at (.ins false "House" oa)) 0 1 (-1)) [:0])
def nn:ka->i0->jj:=cB 1 1 0 Av
def Nf:ka->i0->h7:=xQ 1 1 0 Av
def Aw:FS:=aM (aD cV (mH (.at (.ins false "House" oa)) 0 1 (-1)) [:1])
def t_:ka->i0->jj:=cB 1 1 0 Aw
def Ng:ka->i0->h7:=xQ 1 1 0 Aw
def Ax:FS:=aE (j1 (mI (.at (.ins false "House" oa)) 0 0 (aB 1))) (j1 (mI (.at (.ins false "House" oa)) 0 1 (bH (bc (aB 2) (bc (aB 3) (aC))))))
def pJ:ka->i0->kb:=fR 4 1 3 Ax
def Nh:ka->i0->Option (Str×ka):=xL 4 1 3 Ax
def u0:FS:=aE (aG 4 (fK (.ins false "House" oa) 0 (lh nn [0] (aC)))) (aE (cQ (me yt [] (bc (aB 4) (bc (aB 1) (aC)))) (j1 (lh m_ [] (bc (aB 4) (bc (aB 1) (aC)))))) (aE (cQ (me tQ [] (bc (aB 2) (aC))) (j1 (lh tP [] (bc (aB 2) (aC))))) (aE (cQ (me tS [] (bc (aB 3) (aC))) (j1 (lh tR [] (bc (aB 3) (aC))))) (aE (cQ (me nb [] (bc (aB 4) (aC))) (j1 (lh tU [] (bc (aB 4) (aC))))) (aE (cQ (jZ true (me ng [] (bc (yz (.ins false "House" oa) 0 0) (aC)))) (j1 (fI true (lh tX [] (bc (yz (.ins false "House" oa) 0 0) (aC)))))) (aE (aG 5 (fI true (e9 tY (bc (yz (.ins false "House" oa) 0 0) (aC))))) (aE (aG 6 (aL (cW (aL (ij (bc (bH (bc (aB 5) (bc (aB 2) (bc (aB 3) (aC))))) (aC)))) (aH 4 (aD bO (aB 1) [:1]))))) (aE (j1 (fK (.ins false "House" oa) 0 (vk pJ [0] (bc (bH (bc (fC (.str "put")) (bc (aB 1) (bc (aB 2) (bc (aB 3) (aC)))))) (bc (e9 sX (bc (aB 4) (bc (aB 1) (bc (aB 6) (aC))))) (bc (fK (.ins false "House" oa) 0 (lh t_ [0] (aC))) (aC))))))) (aM (aB 5))))))))))
def pK:ka->i0->kb:=fR 7 1 3 u0
def pL:ka->i0->Option (Str×ka):=xL 7 1 3 u0
def pM:FS:=bZ (aJ (aD fB (aD ud (aB 2) (e9 pd (bc (aB 5) (aC)))) (aD ud (aB 2) (e9 pd (bc (aB 4) (aC)))))) (aG 3 (aD iw (aB 3) (aD bT (e9 um (bc (aB 4) (aC))) (e9 um (bc (aB 5) (aC)))))) (aU)
def Ay:FS:=bP 5 (cX (aB 1)) (pM)
def Az:FS:=aE (aG 3 [:0]) (aE (bP 4 (cX (aB 0)) (Ay)) (aM (aB 3)))
def A0:i0->jj:=aR 6 3 Az
def pN:FS:=aE (aG 7 (aH 1 (aB 6))) (aE (aG 8 (aD bT (e9 x6 (bc (aH 0 (aB 4)) (bc (aH 0 (aB 6)) (aC)))) (e9 A0 (bc (aB 5) (bc (aB 7) (bc (aB 2) (aC))))))) (bZ (aJ (aD dU (aB 8) [:0])) (aE (aG 9 (aD bT (aD cV (aH 0 (aB 4)) [:0]) (aD cV (aH 0 (aB 6)) [:0]))) (j1 (qc 3 (bH (bc (fC (.str "turned")) (bc (e9 pd (bc (aH 5 [:0]) (aC))) (bc (e9 pd (bc (aH 7 [:0]) (aC))) (bc (aB 8) (bc (aB 9) (aC)))))))))) (aU)))
def A1:FS:=bP 6 (gq lX (bc (aD iw (aB 4) [:1]) (bc (ir 1) (aC)))) (pN)
def ED:FS:=aE (bM 3 (ij (aC))) (aE (p8 [4,5] (gq (gX 0) (bc (aB 1) (aC))) (A1)) (aM (aB 3)))
def u3:i0->jj:=aR 10 3 ED
def A2:FS:=aM (e9 zb (bc (aL (mx 4 (cX (aB 0)) [] cG (bH (bc (aB 0) (bc (bH (bc (aB 2) (bc (aB 3) (aC)))) (aC)))))) (aC)))
def u5:i0->jj:=aR 1 1 A2
def u6:FS:=aE (aG 8 (e9 pd (bc (aH 5 (aB 6)) (aC)))) (aE (aG 9 (e9 pd (bc (aH 5 (aD iw (aB 6) [:1])) (aC)))) (aE (aG 10 (aD bT (aB 7) (aD bO (aD cV (aD ud (aB 2) (aB 9)) [:0]) (aD cV (aD ud (aB 2) (aB 8)) [:1])))) (bZ (aJ (aD dU (aB 10) [:0])) (j1 (qc 3 (bH (bc (fC (.str "parted")) (bc (aB 8) (bc (aB 9) (bc (aB 10) (bc (aH 4 [:0]) (aC))))))))) (aU))))
def u7:FS:=p8 [6,7] (gq (gX 0) (bc (e9 sV (bc (aB 4) (bc (aB 5) (aC)))) (aC))) (u6)
def EE:FS:=aE (bM 3 (ij (aC))) (aE (p8 [4,5] (gq kG (bc (aB 0) (bc (aB 1) (aC)))) (u7)) (aM (aB 3)))
def u8:i0->jj:=aR 11 3 EE
def u9:FS:=aE (aG 2 (e9 DK (bc (aB 0) (bc (aB 1) (aC))))) (aE (aG 3 (e9 mR (bc (e9 zy (bc (aB 0) (bc (aB 1) (aC)))) (aC)))) (aE (aG 4 (e9 va (bc (aB 0) (aC)))) (aE (aG 5 (e9 sU (bc (aB 0) (bc (aB 4) (aC))))) (aE (aG 6 (aL (j7 (cX (aB 4)) [] cG (e9 wt (bc (aB 0) (aC)))))) (aM (aL (cW (e9 u3 (bc (aB 6) (bc (aB 5) (bc (aB 3) (aC))))) (e9 u8 (bc (aB 6) (bc (aB 5) (bc (e9 u5 (bc (aB 2) (aC))) (aC))))))))))))
def EG:i0->jj:=aR 7 2 u9
def aY:FS:=aE (aG 2 (fK (.ins false "House" oa) 0 (lh nn [0] (aC)))) (aE (aG 3 (aD bO (e9 sR (bc (aB 2) (bc (aB 1) (aC)))) (e9 sS (bc (aB 2) (aC))))) (aM (bH (bc (aB 3) (bc (e9 DL (bc (aB 2) (bc (aB 1) (aC)))) (bc (e9 EG (bc (aB 2) (bc (aB 1) (aC)))) (aC)))))))
def bX:ka->i0->jj:=cB 4 1 1 aY
def bF:ka->i0->h7:=xQ 4 1 1 aY
def xz:FS:=aE (mi 3 (xo (cX (aB 0)) [] (gq tf (bc (aB 0) (aC))))) (aE (aG 4 [:0]) (aE (bZ (aJ (aD dU (ir 1) [:1])) (aG 4 (aD bO (aH 1 [:1]) [:1])) (aU)) (aE (bZ (aJ (aD eU (aH 1 [:0]) (fC (.str "put")))) (aE (mK 3 (aB 4) (y7 false (cW (aL (ij (bc (bH (bc (aB 2) (bc (aH 1 [:2]) (bc (aH 1 [:3]) (aC))))) (aC)))) (aH 3 (aB 4))))) (aM (aL (ij (bc (aB 3) (bc (aB 2) (aC))))))) (aU)) (aE (bZ (aJ (aD eU (aH 1 [:0]) (fC (.str "tell")))) (aE (aG 5 (fI false (aD cV (aH 3 (aB 4)) (aD bO (aH 1 [:2]) [:1])))) (aE (D5 3 (aB 4) (aD bO (aH 1 [:2]) [:1]) (bH (bc (aH 5 [:0]) (bc (aH 5 [:1]) (bc (aH 1 [:3]) (aC)))))) (aM (aL (ij (bc (aB 3) (bc (aH 5 [:2]) (aC)))))))) (aU)) (aE (bZ (aJ (aD eU (aH 1 [:0]) (fC (.str "dry")))) (aG 4 (aD bO (aD cV (aD cV (e9 pu (bc (aB 0) (aC))) [:0]) [:0]) [:1])) (aU)) (aE (aG 5 (fI false (aD cV (aH 3 (aB 4)) [:0]))) (aE (mK 3 (aB 4) (y7 false (gG (aH 3 (aB 4)) (gB [:1]) (gP)))) (aM (aL (ij (bc (aB 3) (bc (aB 5) (aC)))))))))))))
def pO:i0->jj:=aR 6 3 xz
inductive eG where
 |put (a h l:Int) |tell (a p l:Int) |go (a:Int) |dry
abbrev kv:=List eG
def dD:eG->D
 | .put a h l=>.tup [.str "put",↥a,↥h,↥l]
 | .tell a p l=>.tup [.str "tell",↥a,↥p,↥l]
 | .go a=>.tup [.str "go",↥a] | .dry=>.tup [.str "dry"]
def eG.isPut:eG->Bool | .put ..=>true |_=>false
abbrev Ni:=Int×Int×Int
abbrev k4:=List Ni
abbrev Hs:=kl×k4
abbrev k6:=List Hs
def kJ(sp:k4):D:=.lst (sp.map sD)
def lA(s:Hs):D:=.tup [aF s.1,kJ s.2]
abbrev kH:AK:=.ins false "House" oa
def hP(k:kv)(s:k6):js:=[.o (k.map dD),.o (s.map lA)]
abbrev hA(k:kv)(s:k6):Ag:=(kH,hP k s)
variable{e:aQ}{κ:AK}{ps:js}
def Nj(h:e[i]?=↑↑(.ag κ l ps))(D:ps[j]?=↑(.o ds)):ub (.at κ) i j e=↑ds:=by
 unfold ub dB;rw[ax (show Acc.ok (.at κ) e i j from(show jE κ e i from .inl ⟨_,_,h⟩)),h];dsimp;rw[D]
def EH(h:e[i]?=↑↑(.ro κ ps))(D:ps[j]?=↑(.o ds)):ub (.at κ) i j e=↑ds:=by
 unfold ub dB;rw[ax (show Acc.ok (.at κ) e i j from(show jE κ e i from .inr ⟨_,h⟩)),h];dsimp;rw[D]
variable{f:FE}
def A3(h:e[i]?=↑↑(.ag κ l ps)):fK κ i f e=f e:=ax (.inl ⟨_,_,h⟩)
def Nk(h:e[i]?=↑↑(.ro κ ps)):fK κ i f e=f e:=ax (.inr ⟨_,h⟩)
def Nl{f:XF}(h:e[i]?=↑↑(.ag κ l ps)):xK κ i f e=f e:=ax (.inl ⟨_,_,h⟩)
variable{m:ka->i0->jj}{F:FA}
def EI:lh m [] F e=(F e).bind λr=>(m [] r.1).map λd=>(d,r.2):=by
 unfold lh;rw[ax (show fF e [] from λk D=>nomatch D)];rfl
def EJ{x:ka->i0->h7}:me x [] F e=(F e).bind λr=>(x [] r.1).map λd=>(d,r.2):=by
 unfold me;rw[ax (show fF e [] from λk I=>nomatch I)];rfl
variable{r:i0×aQ}{d:D}{ps':js}
def Nm{m:ka->i0->kb}(h:e[i]?=↑↑(.ag κ l ps))(I:F e=↑r)(h2:r.2[i]?=↑↑(.ag κ l ps))(U:m [(κ,ps)] r.1=↑(d,[(κ,ps')])):vk m [i] F e=↑(d,r.2.set i ↑(.ag κ l ps')):=by
 unfold vk;rw[ax (show fF e [i] from λk V=>by rw[eh.mp V];exact⟨_,h⟩),I];simp[dZ,h2,U,dF]
def No{x:ka->i0->Option (Str×ka)}(h:e[i]?=↑↑(.ag κ l ps))(I:F e=↑r)(h2:r.2[i]?=↑↑(.ag κ l ps))(U:x [(κ,ps)] r.1=none):yg x [i] F e=none:=by
 unfold yg;rw[ax (show fF e [i] from λk V=>by rw[eh.mp V];exact⟨_,h⟩),I];simp only[dZ,h2,aj,ae,U];rfl
theorem EK(xs:i0)(x:D):bJ (xs++[x]) (-1)=↑x:=by
 unfold bJ dJ;rw[cb (by decide),ax (by simp;lia),show(-1+((xs++[x]).length:Int)).toNat=xs.length by simp;lia];simp
variable{k:kv}{s:Hs}
def A4:nn [hA k (p++[s])] []=↑(aF s.1):=by
 unfold nn cB;have h:ub (.at kH) 0 1 (my 1 [hA k (p++[s])] [])=↑((p++[s]).map lA):=EH (ps:=hP k (p++[s])) rfl rfl;simp[Av,mH,h,EK,lA];rfl
def Np:t_ [hA k (p++[s])] []=↑(kJ s.2):=by
 unfold t_ cB;have h:ub (.at kH) 0 1 (my 1 [hA k (p++[s])] [])=↑((p++[s]).map lA):=EH (ps:=hP k (p++[s])) rfl rfl;simp[Aw,mH,h,EK,lA];rfl
def pP(sp:k4):Int:=match sp.getLast? with |none=>0 |some x=>x.2.1
theorem EL{a:Int}(h1:1<=a)(h2:a<=ss.length):yt [] [aF ss,↥a]=none/\m_ [] [aF ss,↥a]=some .non:=by
 have e:my 2 [] [aF ss,↥a]=[!aF ss,!↥a]:=rfl;have l:((ss.map λs=>D.lst (s.map sD)).length:Int)=ss.length:=by rw[ai]
 unfold yt m_ xQ cB;rw[ax ⟨rfl,rfl⟩,ax ⟨rfl,rfl⟩,e];unfold aF at *;generalize (ss.map λs=>D.lst (s.map sD))=L at *;simp[pH,show ¬a<1 by lia,show ¬((L.length:Int)<a) by lia]
theorem Nq{a:Int}(h:a<1\/ss.length<a):yt [] [aF ss,↥a]=↑("UnknownStack" : Str):=by
 have e:my 2 [] [aF ss,↥a]=[!aF ss,!↥a]:=rfl;have l:((ss.map λs=>D.lst (s.map sD)).length:Int)=ss.length:=by rw[ai]
 unfold yt xQ;rw[ax ⟨rfl,rfl⟩,e];unfold aF at *;generalize (ss.map λs=>D.lst (s.map sD))=L at *;by_cases h1:a<1
 ·simp[pH,h1,qz]
 ·simp[pH,h1,show((L.length:Int)<a) by lia,qz]
variable{h:Int}
theorem Nr(h1:1<=h)(h2:h<=60):tQ [] [↥h]=none/\tP [] [↥h]=some .non:=by
 unfold tQ tP xQ cB;rw[ax ⟨rfl,rfl⟩,ax ⟨rfl,rfl⟩,show my 1 [] [↥h]=[!↥h] from rfl];simp[Ar,show ¬h<1 by lia,show ¬60<h by lia]
theorem Nt(h1:0<=h)(h2:h<=100):tS [] [↥h]=none/\tR [] [↥h]=some .non:=by
 unfold tS tR xQ cB;rw[ax ⟨rfl,rfl⟩,ax ⟨rfl,rfl⟩,show my 1 [] [↥h]=[!↥h] from rfl];simp[As,show ¬h<0 by lia,show ¬100<h by lia]
theorem Nu(h1:0<=h)(h2:h<=5):tO [] [↥h]=none/\tN [] [↥h]=some .non:=by
 unfold tO tN xQ cB;rw[ax ⟨rfl,rfl⟩,ax ⟨rfl,rfl⟩,show my 1 [] [↥h]=[!↥h] from rfl];simp[Aq,show ¬h<0 by lia,show ¬5<h by lia]
theorem Nv(ss:kl)(D:ss.length<=1000):(if ss.flatten.length<14 then nb [] [aF ss]=none/\tU [] [aF ss]=some .non else nb [] [aF ss]=↑("HouseFull" : Str)):=by
 have h:=MX ss D;generalize ss.flatten.length=n at *;split <;> rename_i I
 ·unfold nb tU xQ cB
  rw[ax ⟨rfl,rfl⟩,ax ⟨rfl,rfl⟩,show my 1 [] [aF ss]=[!aF ss] from rfl];simp[tT,h,show ¬(14:Int)<=(n:Int) by lia]
 ·unfold nb xQ
  rw[ax ⟨rfl,rfl⟩,show my 1 [] [aF ss]=[!aF ss] from rfl];simp[tT,h,show(14:Int)<=(n:Int) by lia,qz,vInt]
theorem Nw(ds:i0):(if ds.length<60 then ng [] [.lst ds]=none/\tX [] [.lst ds]=some .non else ng [] [.lst ds]=↑("DeedsFull" : Str)):=by
 split <;> rename_i I
 ·unfold ng tX xQ cB
  rw[ax ⟨rfl,rfl⟩,ax ⟨rfl,rfl⟩,show my 1 [] [.lst ds]=[!.lst ds] from rfl];simp[tW,show ¬(60:Int)<=(ds.length:Int) by lia]
 ·unfold ng xQ
  rw[ax ⟨rfl,rfl⟩,show my 1 [] [.lst ds]=[!.lst ds] from rfl];simp[tW,show(60:Int)<=(ds.length:Int) by lia,qz,vInt]
def ki(k:kv):Int:=1+(k.filter eG.isPut).length
theorem Nx(k:kv)(U:k.length<=1000):tY [.lst (k.map dD)]=↑↥(ki k):=by
 have c:=rK (tt:=aJ (aD eU (aH 0 [:0]) (fC (.str "put")))) (te:=aB 0) (base:=[]) dD dD eG.isPut k λx _=>by
  cases x with
  |put a h l=>exact⟨_,rfl,λ_=>⟨_,rfl⟩⟩
  |tell a p l=>exact⟨_,rfl,λz=>nomatch z⟩
  |go a=>exact⟨_,rfl,λz=>nomatch z⟩ |dry=>exact⟨_,rfl,λz=>nomatch z⟩
 have I:cE (k.map dD).length:=few (by rw[ai];lia);unfold tY aR;rw[ax (show[D.lst (k.map dD)].length=1 from rfl),show kr 1 [D.lst (k.map dD)]=[!.lst (k.map dD)] from rfl];unfold ki;generalize k.map dD=L at *;simp[EC,j7,I,c]
def Ny:fK κ 0 f (↑(.ag κ l ps)::e)=f (↑(.ag κ l ps)::e):=A3 rfl
def pQ:fK κ 0 f (↑(.ro κ ps)::e)=f (↑(.ro κ ps)::e):=Nk rfl
variable{sl:Sl}
def A5:lh m [0] F (↑sl::e)=(F (↑sl::e)).bind λr=>(e_ r.2 [0]).bind λags=>(m ags r.1).map λd=>(d,r.2):=ax λk D=>by rw[eh.mp D];exact⟨_,rfl⟩
variable{m:ka->i0->kb}
def Nz:vk m [0] F (↑sl::e)=(F (↑sl::e)).bind λr=>(dZ r.2 [0]).bind λags=>(m ags r.1).bind λq=>if q.2.map (·.1)=ags.map (·.1) then ↑(q.1,dF r.2 [0] q.2) else none:=ax λk D=>by rw[eh.mp D];exact⟨_,rfl⟩
def N0:dZ (↑(.ag κ l ps)::e) [0]=↑[(κ,ps)]:=rfl
def N1{D:AK}:dF (↑(.ag κ l ps)::e) [0] [(D,ps')]=↑(.ag D l ps')::e:=rfl
def N3:e_ (↑(.ag κ l ps)::e) [0]=↑[(κ,ps)]:=rfl
def EM:e_ (↑(.ro κ ps)::e) [0]=↑[(κ,ps)]:=rfl
def N4:yz kH 0 0 (frz true (↑(.ag kH l (hP k p))::e))=↑(.lst (k.map dD),frz true (↑(.ag kH l (hP k p))::e)):=by
 unfold yz;rw[ax (show jE kH (frz true (↑(.ag kH l (hP k p))::e)) 0 from .inr ⟨[.d (.lst (k.map dD)),.d (.lst (p.map lA))],rfl⟩)];rfl
def EO{r:Nat}(h:e[i]?=↑↑(.ag κ ↑r ps))(I:∀c fs,κ≠.ins true c fs)(D:ps[j]?=↑(.o ds))(U:f e=↑(d,e))(V:cE (ds.length+1)) :
  mI (.at κ) i j f e=↑(.non,e.set i ↑(.ag κ ↑r (ps.set j (.o (ds++[d]))))):=by
 unfold mI;rw[h];dsimp only;rw[ax (show jY κ ↑r from⟨rfl,I⟩),Nj h D,ae,U,ae];unfold lc;rw[h];dsimp only;rw[D];dsimp only;rw[ax ⟨rfl,rfl,rfl,V⟩];unfold setP;rw[h]
theorem N5{d:eG}{sp:k4}(D:k.length<=1000)(I:p.length<=1000):pJ [hA k p] [dD d,aF ss,kJ sp]=↑(.non,[hA (k++[d]) (p++[(ss,sp)])]):=by
 have h1:=EO (e:=[↑(.ag kH ↑0 (hP k p)),!dD d,!aF ss,!kJ sp]) (i:=0) (j:=0) (f:=aB 1) rfl (λc fs z=>nomatch z) rfl rfl (few (by rw[ai];lia));have h2:=EO (e:=[↑(.ag kH ↑0 ((hP k p).set 0 (.o (k.map dD++[dD d])))),!dD d,!aF ss,!kJ sp]) (i:=0) (j:=1) (f:=bH (bc (aB 2) (bc (aB 3) aC))) (ds:=p.map lA) rfl (λc fs z=>nomatch z) rfl rfl (few (by rw[ai];lia));unfold pJ fR;rw[ax ⟨rfl,rfl⟩,show we 4 [hA k p] [dD d,aF ss,kJ sp]=[↑(.ag kH ↑0 (hP k p)),!dD d,!aF ss,!kJ sp] from rfl];simp[Ax,h1,h2];unfold hA hP;rw[bh,bh];rfl
def hI(ss:kl)(n:Nat)(a h l:Int):h7:=if a<1\/(ss.length:Int)<a then some "UnknownStack" else if h<1\/60<h then some "BadHours" else if l<0\/100<l then some "BadLoss" else if ss.flatten.length<14 then(if n<60 then none else some "DeedsFull") else some "HouseFull"
def dC(ss:kl)(a:Nat)(x:Sk):kl:=ss.set (a-1) (x::ss.getD (a-1) [])
theorem N6{l:Int}(I:hI s.1 k.length a h l=none)(r:s.1.length<=5)(t:p.length<=100) :
  pL [hA k (p++[s])] [↥a,↥h,↥l]=none/\pK [hA k (p++[s])] [↥a,↥h,↥l]=↑(.int (ki k),[hA (k++[.put a h l]) (p++[s]++[(dC s.1 a (ki k,h,l),s.2)])]):=by
 unfold hI at I;split at I
 ·cases I
 split at I
 ·cases I
 split at I
 ·cases I
 split at I;case isFalse=>cases I
 rename_i c;split at I;case isFalse=>cases I
 rename_i e;have k1:=EL (ss:=s.1) (a:=a) ∅ ∅;have k2:=Nr (h:=h) ∅ ∅;have k3:=Nt (h:=l) ∅ ∅;have b:=Nv s.1 ∅;rw[ax c] at b;have k5:=Nw (k.map dD);rw[ax (by rw[ai];exact e)] at k5;have f:=Nx k ∅;have U:(a-1:Nat)<s.1.length:=by lia
 have g:bJ (s.1.map λs=>D.lst (s.map sD)) ((a:Int)-1)=↑(.lst ((s.1.getD (a-1) []).map sD)):=by
  rw[show(a:Int)-1=((a-1:Nat):Int) by lia,md (λs:kf=>D.lst (s.map sD)) (aq U),aw,aq U];rfl
 have i:=M_ (ss:=s.1) (a:=a) ((ki k,h,l)::s.1.getD (a-1) []) ∅ ∅ ∅;have j:=N5 (k:=k) (p:=p++[s]) (d:=.put a h l) (ss:=dC s.1 a (ki k,h,l)) (sp:=s.2) ∅ (by simp;lia);have m:=A4 (k:=k) (p:=p) (s:=s);have n:=Np (k:=k) (p:=p) (s:=s);have o:cE (0+1+((s.1.getD (a-1) []).map sD).length):=few (by
  have:(s.1.getD (a-1) []).length<=s.1.flatten.length:=by
   rw[aw,aq U];exact(em (gk U)).length_le
  rw[ai];lia)
 have q:we 7 [hA k (p++[s])] [↥a,↥h,↥l]=[↑(.ag kH ↑0 (hP k (p++[s]))),!↥a,!↥h,!↥l,none,none,none]:=rfl;have Y:pJ [(kH,hP k (p++[s]))] [.tup [.str "put",↥a,↥h,↥l],aF (dC s.1 a (ki k,h,l)),kJ s.2]=↑(.non,[hA (k++[.put a h l]) (p++[s]++[(dC s.1 a (ki k,h,l),s.2)])]):=j;have Z:sX [aF s.1,↥a,.lst (.tup [↥(ki k),↥h,↥l]::(s.1.getD (a-1) []).map sD)]=↑(aF (dC s.1 a (ki k,h,l))):=i;have V:u0 (we 7 [hA k (p++[s])] [↥a,↥h,↥l])=↑(.rt ↥(ki k),[↑(.ag kH ↑0 (hP (k++[.put a h l]) (p++[s]++[(dC s.1 a (ki k,h,l),s.2)]))),!↥a,!↥h,!↥l,!aF s.1,!↥(ki k),!(.lst (.tup [↥(ki k),↥h,↥l]::(s.1.getD (a-1) []).map sD))]):=by
  rw[q];generalize (s.1.getD (a-1) []).map sD=TL at *;unfold aF at *;simp[u0,Ny,A5,N3,m,EJ,EI,k1,k2,k3,b,jZ,fI,N4,k5,noL,f,g,o,Nz,N0,Z,n,Y,N1]
 exact⟨by unfold pL xL;rw[ax ⟨rfl,rfl⟩,V],by unfold pK fR;rw[ax ⟨rfl,rfl⟩,V];rfl⟩
def dG(n:Nat):Hs:=(List.replicate n [],[])
theorem N7(b:n<=5):Au [(.ins true "House" [],[])] [↥n]=none/\pI [(.ins true "House" [],[])] [↥n]=↑(.non,[(.ins true "House" oa,hP [] [dG n])]):=by
 have k1:=Nu (h:=n) ∅ ∅;have U:cE (bL 0 n).length:=few (by rw[u4];lia);have c:=vt (te:=aL (ij aC)) (base:=[]) (λi:Nat=>D.int (0+(i:Int))) (λ_:Nat=>D.lst []) (List.range n) λi _=>⟨_,rfl⟩;have V:=qh n ∅;have Y:we 2 [(AK.ins true "House" [],[])] [↥n]=[↑(.ag (.ins true "House" []) ↑0 []),!↥n]:=rfl;have Z:(List.range n).map (λ_=>D.lst [])=(List.replicate n ([]:kf)).map λs=>D.lst (s.map sD):=by
  rw[List.map_const',jm,List.map_replicate,di]
 have I:tZ (we 2 [(AK.ins true "House" [],[])] [↥n])=↑(.nx,[↑(.ag (.ins true "House" oa) ↑0 (hP [] [dG n])),!↥n]):=by
  rw[Y];unfold bL at V U;rw[Z] at c;have a:(True/\(Str.ofString "kept")∉([]:gs)/\0<900):=⟨trivial,by simp,by decide⟩;simp only[tZ,aE,cQ,EJ,EI,bc,aB,aC,ah,af,ae,k1,fx,aj,j1,oR,ij,ci,f9,d6,ao,j2,bH,aL,j7,gq,V,U,c,di,bf,show 0+1+1<=64 by decide,show 0+1<=64 by decide];rw[ax a];simp only[ae,ah,af,V,U,c,d6,aj,bf,ci,show 0+1+1<=64 by decide,show 0+1<=64 by decide];rfl
 exact⟨by unfold Au xL;rw[ax ⟨rfl,rfl⟩,I],by unfold pI fR;rw[ax ⟨rfl,rfl⟩,I];rfl⟩
def N8(D:n<=5)(I:F e=↑([↥n],e')):oO "House" pI F e=↑((kH,hP [] [dG n]),e'):=by
 unfold oO;rw[I,ae,(N7 D).2];rfl
def EQ(h:e[i]?=↑↑(.ag κ l ps))(D:F e=↑(ds,e))(I:m [(κ,ps)] ds=↑(d,[(κ,ps')])):vk m [i] F e=↑(d,e.set i ↑(.ag κ l ps')):=Nm h (r:=(ds,e)) D h I
def N9{m:ka->i0->Option (Str×ka)}(h:e[i]?=↑↑(.ag κ l ps))(I:F e=↑(ds,e))(U:m [(κ,ps)] ds=none):yg m [i] F e=none:=No h (r:=(ds,e)) I h U
def ER(h:a-1<ss.length):(dC ss a x).flatten.Perm (x::ss.flatten):=by
 exact tp (x:=[x]) (by simp[h])
def NA(h:a-1<ss.length):(dC ss a x).flatten.length=ss.flatten.length+1:=(ER h).length_eq
def ES:Int->k4->Prop
 |_,[]=>True |b,x::r=>x.1=b/\x.1<=x.2.1/\ES x.2.1 r
def A6:Int->k4->Int
 |b,[]=>b |_,x::r=>A6 x.2.1 r
abbrev dE(ss:kl):List i0:=ss.map λs=>s.map sD
def ET(h:e[j]?=↑⇑d):(frz false e)[j]?=↑⇑d:=by
 unfold frz;rw[bj,h];rfl
def EU(h:e[j]?=↑↑(.o2 (dE ss))):(frz false e)[j]?=↑⇑(aF ss):=by
 unfold frz;rw[bj,h];show ↑↑(Sl.sh (.lst ((dE ss).map D.lst)))=_;unfold dE aF;rw[dq];rfl
def EV(r:kf):noLs (r.map sD)=true:=by
 induction r with
 |nil=>rfl |cons x r ih=>rw[bq];unfold noLs;rw[ih];rfl
def NB{c w:Str}(h:xW c=↑w):((List.range 13).filter λk=>c==pz.getD k "").map (λk=>D.str (ut.getD k ""))=[D.str w]:=by
 have I:c∈pz:=DA (by unfold iW;rw[h];rfl);simp[pz] at I;rcases I with rfl |rfl |rfl |rfl |rfl |rfl |rfl |rfl |rfl |rfl |rfl |rfl |rfl <;> cases h <;> rfl
theorem NC(c:Str)(d:D)(h:iW c=↑d):lp 4 xY c d:=by
 obtain⟨w,V,rfl⟩:=fb.mp h;intro ea;have Y:eV [↥13]=↑(bL 0 13):=qh 13 (by decide);have Z:∀n,n<=100->cE n=True:=λn f=>tx (few ∅);have I:=rK (tt:=dR (aJ (aH 2 (aB 0))) (aJ (cZ ea 3 true))) (te:=aH 1 (aB 0)) (base:=[!.lst (ut.map D.str),!(.lst (pz.map λn=>D.bl (c==n))),!.exc ea]) (λj:Nat=>D.int (0+(j:Int))) (λk=>D.str (ut.getD k "")) (λk=>c==pz.getD k "") (List.range 13) (λk U=>by
  have U:=ff.mp U;have a:bJ (pz.map λn=>D.bl (c==n)) (0+(k:Int))=↑(.bl (c==pz.getD k "")):=by
   rw[i5,md (λn:Str=>D.bl (c==n)) (aq (show k<pz.length from U)),aw,aq (show k<pz.length from U)];rfl
  have b:bJ (ut.map D.str) (0+(k:Int))=↑(.str (ut.getD k "")):=by
   rw[i5,md D.str (aq (show k<ut.length from U)),aw,aq (show k<ut.length from U)];rfl
  generalize (pz.map λn=>D.bl (c==n))=KL at *;generalize ut.map D.str=WL at *;refine⟨[!↥(0+(k:Int)),!.lst WL,!.lst KL,!.exc ea],?_,λ_=>⟨_,by simp only[aH,aB,cP,af,ah,ae,aj,b];rfl⟩⟩;generalize (c==pz.getD k "")=bb at *;cases bb <;> simp only[dR,aJ,aH,aB,cP,cZ,a,af,ah,ae,aj,du,ig,d6])
 rw[NB V] at I;have I:qy (dR (aJ (aH 2 (aB 0))) (aJ (cZ ea 3 true))) (aH 1 (aB 0)) [!.lst (ut.map D.str),!(.lst (pz.map λn=>D.bl (c==n))),!.exc ea] (bL 0 13)=↑[D.str w]:=I;have e:(bL 0 13).length=13:=rfl;refine⟨[!.exc ea,!(.lst (pz.map λn=>D.bl (c==n))),!.lst (ut.map D.str),!.lst [.str w]],?_⟩;show xY ea c [!.exc ea,none,none,none]=_;simp[pz,ut] at I ⊢;simp[xY,cZ,Z,j7,Y,e,dX,I,iU]
def A7(ss:kl)(n:Nat)(a m l:Int):h7:=if a<1\/(ss.length:Int)<a then some "UnknownStack" else if (ss.getD (a.toNat-1) []).length=0 then some "EmptyStack" else if m<1\/((ss.getD (a.toNat-1) []).length:Int)<m then some "UnknownPlace" else if l<0\/100<l then some "BadLoss" else if n<60 then none else some "DeedsFull"
def A8(ss:kl)(n:Nat)(a:Int):h7:=if a<1\/(ss.length:Int)<a then some "UnknownStack" else if (ss.getD (a.toNat-1) []).length=0 then some "EmptyStack" else if n<60 then none else some "DeedsFull"
def lB(ss:kl)(n:Nat):h7:=if 0<ss.flatten.length then(if n<60 then none else some "DeedsFull") else some "NothingWaits"
theorem EW{a:Int}(h:¬(a<1\/(ss.length:Int)<a)):ss[a.toNat-1]?=↑(ss.getD (a.toNat-1) []):=by
 rw[aw,aq ∅];rfl
inductive ND where
 |d (x:eG) |back
def A9(ss:kl)(n:Nat):ND->h7
 | .d (.put a h l)=>hI ss n a h l
 | .d (.tell a m l)=>A7 ss n a m l
 | .d (.go a)=>A8 ss n a | .d .dry=>lB ss n | .back=>if n=0 then some "NothingDone" else none
section
variable {c p q:FT} {f g:FE} {u v w:FS} {e:aQ} {i:Nat} {d:D} {x y:Str} {A B:Prop} [Decidable A] [Decidable B] {a b:Int}
end
def AA:(("put" : Str) = "back")=False/\(("put" : Str) = "dry")=False/\(("put" : Str) = "tell")=False/\(("tell" : Str) = "back")=False/\(("tell" : Str) = "dry")=False/\(("tell" : Str) = "put")=False/\(("go" : Str) = "back")=False/\(("go" : Str) = "dry")=False/\(("go" : Str) = "put")=False/\(("go" : Str) = "tell")=False/\(("dry" : Str) = "back")=False/\(("dry" : Str) = "put")=False/\(("dry" : Str) = "tell")=False:=by
 refine⟨?_,?_,?_,?_,?_,?_,?_,?_,?_,?_,?_,?_,?_⟩ <;> exact eq_false (by decide)
def pR{x y z w:D}:bJ [x,y,z,w] 0=↑x/\bJ [x,y,z,w] 1=↑y/\bJ [x,y,z,w] 2=↑z/\bJ [x,y,z,w] 3=↑w:=⟨rfl,rfl,rfl,rfl⟩
def gS{x:D}(I:F (↑(.ag kH l ps)::e)=↑(ds,↑(.ag kH l ps)::e))(U:m [(kH,ps)] ds=↑(x,[(kH,ps')])):fK kH 0 (vk m [0] F) (↑(.ag kH l ps)::e)=↑(x,↑(.ag kH l ps')::e):=by
 rw[A3 (i:=0) rfl];exact EQ (i:=0) rfl I U
theorem k9(ss:kl)(U:ss.length<=1000)(e:aQ):xo (cX (aB 0)) [] (gq tf (bc (aB 0) aC)) (⇑(aF ss)::e)=↑(dE ss,⇑(aF ss)::e):=by
 have c:=xn (te:=gq tf (bc (aB 0) (aC))) (base:=[]) (λs:kf=>D.lst (s.map sD)) (λs:kf=>s.map sD) ss λs _=>⟨_,by simp;rfl⟩;have I:cE (ss.map λs=>D.lst (s.map sD)).length:=few (by rw[ai];lia);unfold aF dE;generalize (ss.map λs=>D.lst (s.map sD))=L at *;simp[xo,I,c]
def pS(ss:kl):D.lst ((dE ss).map D.lst)=aF ss:=by unfold dE aF;rw[dq];rfl
variable{l:Int}
def lC{x:D}{l:i0}:bJ (x::l) 0=↑x:=by unfold bJ dJ;simp
variable{num:Int}
theorem EX(V:1<=a)(g:a<=ss.length)(i:ss.length<=5)(j:(ss.getD (a-1) []).length<=1000):pO [aF ss,dD (.put a h l),↥num]=↑(.lst [aF (dC ss a (num,h,l)),↥num]):=by
 have k:=λe=>k9 ss ∅ e;have Y:=pR (x:=D.str "put") (y:=.int (a:Int)) (z:=.int h) (w:=.int l);have m:((1:Int)<((0+1+1+1+1:Nat):Int))=True:=tx (by decide);have I:ss[a-1]?=↑(ss.getD (a-1) []):=by rw[aw,aq ∅];rfl
 have n:dJ (dE ss).length ((a:Int)-1)=↑(a-1):=by
  rw[tu ∅ (by unfold dE;rw[ai];lia)];congr 1;lia
 have Z:(dE ss).set (a-1) (((num,h,l)::ss.getD (a-1) []).map sD)=dE (dC ss a (num,h,l)):=by unfold dC dE;rw[kq]
 have b:=Ap I V;have c:cE (0+1+((ss.getD (a-1) []).map sD).length):=few (by rw[ai];lia);have d:noLs (D.tup [↥num,↥h,↥l]::(ss.getD (a-1) []).map sD)=true:=EV ((num,h,l)::ss.getD (a-1) []);have ct:y7 false (cW (aL (ij (bc (bH (bc (aB 2) (bc (aH 1 [:2]) (bc (aH 1 [:3]) (aC))))) (aC)))) (aH 3 (aB 4))) [!aF ss,!dD (.put a h l),!↥num,↑(.o2 (dE ss)),!↥((a:Int)-1),none]=↑(((num,h,l)::ss.getD (a-1) []).map sD,[!aF ss,!dD (.put a h l),!↥num,↑(.o2 (dE ss)),!↥((a:Int)-1),none]):=by
  have f:frz false [!aF ss,!dD (.put a h l),!↥num,↑(.o2 (dE ss)),!↥((a:Int)-1),none]=[!aF ss,!dD (.put a h l),!↥num,!aF ss,!↥((a:Int)-1),none]:=by
   rw[<-pS];rfl
  unfold y7;rw[f,show((num,h,l)::ss.getD (a-1) []).map sD=D.tup [↥num,↥h,↥l]::(ss.getD (a-1) []).map sD from rfl];unfold aF dD;generalize (ss.getD (a-1) []).map sD=TL at *;generalize (ss.map λs=>D.lst (s.map sD))=SL at *;simp[Y,b,c,d]
 rw[<-pS (dC ss a (num,h,l)),<-Z];suffices U:∃e',xz [!aF ss,!dD (.put a h l),!↥num,none,none,none]=↑(.rt (.lst [.lst (((dE ss).set (a-1) (((num,h,l)::ss.getD (a-1) []).map sD)).map D.lst),↥num]),e') from let ⟨_,U⟩:=U;kt rfl U;simp only[dD] at ct ⊢;simp only[xz,aE,mi,aG,fC,ir,aH,cP,aB,aD,aJ,bZ,aU,dU,eU,bO,af,ah,ae,aj,ao,au,bf,ci,decide_true,d6,aM,aL,ij,bc,aC,mK,hF,j_,bq,di, *];exact⟨_,rfl⟩
theorem NE{m:Nat}{t:kf}(I:ss[a-1]?=↑t)(V:t[m-1]?=↑x)(Y:1<=a)(j:1<=m)(k:ss.length<=5):pO [aF ss,dD (.tell a m l),↥num]=↑(.lst [aF (ss.set (a-1) (t.set (m-1) (x.1,x.2.1,l))),↥x.2.2]):=by
 have n:=λe=>k9 ss ∅ e;have sn:=AA;have Z:=pR (x:=D.str "tell") (y:=.int (a:Int)) (z:=.int (m:Int)) (w:=.int l);have o:bJ [D.int x.1,↥x.2.1,↥x.2.2] 0=↑↥x.1/\bJ [D.int x.1,↥x.2.1,↥x.2.2] 1=↑↥x.2.1/\bJ [D.int x.1,↥x.2.1,↥x.2.2] 2=↑↥x.2.2:=⟨rfl,rfl,rfl⟩;have p:((1:Int)<((0+1+1+1+1:Nat):Int))=True:=tx (by decide);have b:(0+1+1<=64)=True/\(0+1+1+1<=64)=True:=⟨tx (by decide),tx (by decide)⟩;have q:=(am.mp I).1;have r:=(am.mp V).1;have s:dJ (dE ss).length ((a:Int)-1)=↑(a-1):=by
  rw[tu ∅ (by unfold dE;rw[ai];lia)];congr 1;lia
 have c:(dE ss)[a-1]?=↑(t.map sD):=by unfold dE;rw[bj,I];rfl
 have d:dJ (t.map sD).length ((m:Int)-1)=↑(m-1):=by
  rw[tu ∅ (by rw[ai];lia)];congr 1;lia
 have f:(dE ss).set (a-1) ((t.map sD).set (m-1) (.tup [↥x.1,↥x.2.1,↥l]))=dE (ss.set (a-1) (t.set (m-1) (x.1,x.2.1,l))):=by
  unfold dE;rw[kq,kq];rfl
 have g:=Ap I Y;have h:bJ (t.map sD) ((m:Int)-1)=↑(sD x):=by
  rw[show(m:Int)-1=((m-1:Nat):Int) by lia];exact md sD V
 have ct:fI false (aD cV (aH 3 (aB 4)) (aD bO (aH 1 [:2]) [:1])) [!aF ss,!dD (.tell a m l),!↥num,↑(.o2 (dE ss)),!↥((a:Int)-1),none]=↑(sD x,[!aF ss,!dD (.tell a m l),!↥num,↑(.o2 (dE ss)),!↥((a:Int)-1),none]):=by
  have i:frz false [!aF ss,!dD (.tell a m l),!↥num,↑(.o2 (dE ss)),!↥((a:Int)-1),none]=[!aF ss,!dD (.tell a m l),!↥num,!aF ss,!↥((a:Int)-1),none]:=by
   rw[<-pS];rfl
  unfold fI;rw[i];unfold aF dD;simp[Z,g,h];rfl
 rw[<-pS (ss.set (a-1) (t.set (m-1) (x.1,x.2.1,l))),<-f];suffices U:∃e',xz [!aF ss,!dD (.tell a m l),!↥num,none,none,none]=↑(.rt (.lst [.lst (((dE ss).set (a-1) ((t.map sD).set (m-1) (.tup [↥x.1,↥x.2.1,↥l]))).map D.lst),↥x.2.2]),e') from let ⟨_,U⟩:=U;kt rfl U;simp only[dD,sD] at ct ⊢;simp only[xz,aE,mi,aG,fC,ir,aH,cP,aB,aD,aJ,bZ,aU,dU,eU,bO,af,ah,ae,aj,ao,au,bf,ci,decide_true,decide_false,du,ig,d6,aM,aL,ij,bc,aC,mK,hF, *];simp only[D5,bH];simp only[fC,aH,cP,aB,aD,bO,af,ah,ae,aj,ao,au,bf,ci,d6,bc,aC,hF,j_,bq,di, *];exact⟨_,rfl⟩
variable{tl:kf}
theorem EY{v1 v2:j0}(V:ss[a-1]?=↑(x::tl))(Y:1<=a)(i:ss.length<=5)(Z:tl.length<=1000) :
  ∃e',(aE (aG 5 (fI false (aD cV (aH 3 (aB 4)) [:0]))) (aE (mK 3 (aB 4) (y7 false (gG (aH 3 (aB 4)) (gB [:1]) (gP)))) (aM (aL (ij (bc (aB 3) (bc (aB 5) (aC)))))))) [!aF ss,v1,v2,↑(.o2 (dE ss)),!↥((a:Int)-1),none]=↑(.rt (.lst [aF (ss.set (a-1) tl),sD x]),e'):=by
 have j:=(am.mp V).1;have b:dJ (dE ss).length ((a:Int)-1)=↑(a-1):=by
  rw[tu ∅ (by unfold dE;rw[ai];lia)];congr 1;lia
 have c:(dE ss).set (a-1) (tl.map sD)=dE (ss.set (a-1) tl):=by unfold dE;rw[kq]
 have I:=Ap V Y;have d:bJ (sD x::tl.map sD) 0=↑(sD x):=lC;have cd:=EB (sD x::tl.map sD) 1 ⋯;have e:noLs (tl.map sD)=true:=EV tl;have U:(0+1+1<=64)=True:=tx (by decide);have f:(frz false [!aF ss,v1,v2,↑(.o2 (dE ss)),!↥((a:Int)-1),none])[3]?=↑⇑(aF ss)/\(frz false [!aF ss,v1,v2,↑(.o2 (dE ss)),!↥((a:Int)-1),none])[4]?=↑⇑↥((a:Int)-1):=⟨EU rfl,ET rfl⟩;have g:(frz false [!aF ss,v1,v2,↑(.o2 (dE ss)),!↥((a:Int)-1),!sD x])[3]?=↑⇑(aF ss)/\(frz false [!aF ss,v1,v2,↑(.o2 (dE ss)),!↥((a:Int)-1),!sD x])[4]?=↑⇑↥((a:Int)-1):=⟨EU rfl,ET rfl⟩;have ct:fI false (aD cV (aH 3 (aB 4)) [:0]) [!aF ss,v1,v2,↑(.o2 (dE ss)),!↥((a:Int)-1),none]=↑(sD x,[!aF ss,v1,v2,↑(.o2 (dE ss)),!↥((a:Int)-1),none]):=by
  unfold fI;unfold aF at *;simp[f,I,d];rfl
 have h:y7 false (gG (aH 3 (aB 4)) (gB [:1]) (gP)) [!aF ss,v1,v2,↑(.o2 (dE ss)),!↥((a:Int)-1),!sD x]=↑(tl.map sD,[!aF ss,v1,v2,↑(.o2 (dE ss)),!↥((a:Int)-1),!sD x]):=by
  unfold y7;unfold aF at *;rw[bq] at I;generalize tl.map sD=TL at *;generalize (ss.map λs=>D.lst (s.map sD))=SL at *;have cd:cutD (sD x::TL) ↑1 none=TL:=cd;simp[g,I,cd,e]
 rw[<-pS (ss.set (a-1) tl),<-c];generalize tl.map sD=TL at *;generalize dE ss=SO at *;simp only[aE,aG,ct,aj,ae,ao,au,mK,h,af,ah,hF,j_,bq,di,aB,b,aM,aL,ij,bc,aC,bf,ci,U,d6];exact⟨_,rfl⟩
theorem NF(U:ss[a-1]?=↑(x::tl))(V:1<=a)(Y:ss.length<=5)(I:tl.length<=1000):pO [aF ss,dD (.go a),↥num]=↑(.lst [aF (ss.set (a-1) tl),sD x]):=by
 obtain⟨e',st⟩:=EY (v1:=⇑(dD (.go a))) (v2:=⇑↥num) U V Y I;have Z:=λe=>k9 ss ∅ e;have sn:=AA;have b:bJ [D.str "go",↥(a:Int)] 0=↑(.str "go")/\bJ [D.str "go",↥(a:Int)] 1=↑↥(a:Int):=⟨rfl,rfl⟩;have c:((1:Int)<((0+1+1:Nat):Int))=True:=tx (by decide);refine kt (e':=e') rfl (?_:xz [!aF ss,!dD (.go a),!↥num,none,none,none]=_);rw[<-st];simp only[dD];simp[xz,Z,b,sn]
theorem NG{u v w:D}{ts:i0}(U:pu [aF ss]=↑(.lst (.tup [↥(a:Int),u,v,w]::ts)))(V:ss[a-1]?=↑(x::tl))(Y:1<=a)(Z:ss.length<=5)(I:tl.length<=1000):pO [aF ss,dD .dry,↥num]=↑(.lst [aF (ss.set (a-1) tl),sD x]):=by
 obtain⟨e',st⟩:=EY (v1:=⇑(dD .dry)) (v2:=⇑↥num) V Y Z I;have b:=λe=>k9 ss ∅ e;have sn:=AA;have c:bJ [D.str "dry"] 0=↑(.str "dry"):=rfl;have d:bJ (.tup [↥(a:Int),u,v,w]::ts) 0=↑(.tup [↥(a:Int),u,v,w]):=lC;have f:bJ [D.int (a:Int),u,v,w] 0=↑↥(a:Int):=rfl;have g:((1:Int)<((0+1:Nat):Int))=False:=eq_false (by decide);refine kt (e':=e') rfl (?_:xz [!aF ss,!dD .dry,!↥num,none,none,none]=_);rw[<-st];simp only[dD];simp[xz,b,c,sn,U,d,f]
structure SI (n i:Nat) (s:Hs):Prop where
 len:s.1.length=n
 few:s.1.flatten.length<=14
 good:∀x∈s.1.flatten,i6 x
 chain:ES 0 s.2
 rate:∀x∈s.2,0<=x.2.2/\x.2.2<=100000
 sp:s.2.length<=i
 hour:A6 0 s.2<=60*s.2.length
def uA(k:kv)(s:Hs)(d:eG)(s':Hs):Prop:=A9 s.1 k.length (.d d)=none/\∃D,pO [aF s.1,dD d,↥(ki k)]=↑(.lst [aF s'.1,D])/\match d with | .dry=>∃x:Sk,D=sD x/\s'.2=s.2++[(pP s.2,pP s.2+x.2.1,bA s.1.flatten)] |_=>s'.2=s.2
structure HI (n:Nat) (k:kv) (p:k6) (s:Hs):Prop where
 n5:n<=5
 k60:k.length<=60
 kp:p.length=k.length
 all:∀i t,(p++[s])[i]?=↑t->SI n i t
 st0:(p++[s])[0]?=↑(dG n)
 tr:∀i d t t',k[i]?=↑d->(p++[s])[i]?=↑t->(p++[s])[i+1]?=↑t'->uA (k.take i) t d t'
def HI.at(h:HI n k p s):SI n k.length s:=h.all k.length s (by rw[<-h.kp];simp)
def EZ{α:Type}:∀(ss:List (List α)) (i:Nat) (t t':List α),ss[i]?=↑t->∃A B,ss.flatten=A++(t++B)/\(ss.set i t').flatten=A++(t'++B)
 |y::r,0,t,t',h=>by
   simp at h;subst h;exact⟨[],r.flatten,rfl,rfl⟩
 |y::r,i+1,t,t',h=>by
   obtain⟨A,B,h1,h2⟩:=EZ r i t t' (by simpa using h);exact⟨y++A,B,by simp[h1],by simp[h2]⟩
variable{d:eG}{s':Hs}
theorem HI.push(h:HI n k p s)(Z:k.length<60)(V:SI n (k.length+1) s')(st:uA k s d s'):HI n (k++[d]) (p++[s]) s':=by
 have Y:(p++[s]).length=k.length+1:=by simp[h.kp]
 have lt:∀i,i<=k.length->(p++[s]++[s'])[i]?=(p++[s])[i]?:=λi c=>bg ∅;have U:(p++[s]++[s'])[k.length+1]?=↑s':=by rw[<-Y,lz]
 refine⟨h.n5,by simp;lia,by simp[h.kp],λi t D=>?_,by rw[lt 0 ∅];exact h.st0,λi d' t t' h1 h2 I=>?_⟩
 ·by_cases c:i<=k.length
  ·exact h.all i t (lt i c ▸ D)
  ·obtain rfl:i=k.length+1:=by have:=(am.mp D).1;simp[h.kp] at this;lia
   rw[U] at D;cases D;exact V
 ·by_cases c:i<k.length
  ·rw[jd ∅]
   exact h.tr i d' t t' (by rwa [bg c] at h1) (by rwa [lt i ∅] at h2) (by rwa [lt _ c] at I)
  ·obtain rfl:i=k.length:=by have:=(am.mp h1).1;simp at this;lia
   rw[lz] at h1;rw[lt _ (b6 _),<-h.kp,lz] at h2;rw[U] at I;cases h1;cases h2;cases I;rw[yw];exact st
theorem SI.swap{t t':kf}(h:SI n i s)(I:s.1[a]?=↑t)(U:s.1.flatten.length+t'.length<=14+t.length)(V:∀x∈t',(∀y∈t,i6 y)->i6 x):SI n (i+1) (s.1.set a t',s.2):=by
 obtain⟨A,B,h1,h2⟩:=EZ s.1 a t t' I;have g:=h.good;rw[h1] at g U;refine⟨by rw[d7];exact h.len,?_,?_,h.chain,h.rate,t3 h.sp,h.hour⟩
 ·show(s.1.set a t').flatten.length<=14
  rw[h2];simp at *
  lia
 ·intro x D
  rw[h2,dc,dc] at D;rcases D with q |q |q
  ·exact g x (by simp[q])
  ·exact V x q λy Y=>g y (by simp[Y])
  ·exact g x (by simp[q])
theorem NH(k:kv):1<=ki k/\ki k<=k.length+1:=by
 unfold ki;have:=pj eG.isPut k
 lia
def HI.l5(hi:HI n k p s):s.1.length<=5:=by rw[hi.at.len];exact hi.n5
def HI.new(D:n<=5):HI n [] [] (dG n) :=
 ⟨D,by simp,rfl,λi t h=>by
  have e:i=0/\t=dG n:=by
   cases i with
   |zero=>simp at h;exact⟨rfl,h.symm⟩ |succ m=>simp at h
  obtain⟨rfl,rfl⟩:=e;have z:(dG n).1.flatten=[]:=by simp[dG]
  exact⟨by simp[dG],by rw[z];simp,by rw[z];simp,trivial,λx h=>by simp[dG] at h,by simp[dG],by simp[dG,A6]⟩,rfl,λi d t t' h=>by simp at h⟩
theorem E_(cs:g8)(a b:h8):∃I:g8,cutD (cs.map D.int) a b=I.map D.int/\I.length<=cs.length:=by
 unfold cutD;rw[<-List.map_drop,<-List.map_take];exact⟨_,rfl,by simp only[fo,e8];lia⟩
def NI{y:Sk}(h:sD x=sD y):x=y:=by
 obtain⟨a,b,c⟩:=x;obtain⟨d,e,f⟩:=y;simp[sD] at h;simp[h]
def uB{x y:kl}(h:aF x=aF y):x=y:=by
 unfold aF at h;exact(rl λa b e=>(rl λ_ _=>NI).mp (D.lst.inj e)).mp (D.lst.inj h)
def flat(ts:kn):kf:=(ts.map (·.2)).flatten
def NJ(ok:aK ss ts):(flat ts).length=ss.flatten.length/\bA (flat ts)=bA ss.flatten/\∀x∈flat ts,x∈ss.flatten:=by
 have h:=ok.perm;refine⟨h.length_eq,?_,λx D=>h.mem_iff.mp D⟩;exact MV (λx:Sk=>x.2.2) h
abbrev uC:=Nat×Sk
def non(a:Nat)(L:List uC):kf:=(L.filter λe=>not (e.1==a)).map (·.2)
def stk(ss:kl)(c:Nat):kf:=if c=0 then[] else ss.getD (c-1) []
def chg(a:Nat)(l:Int):Nat->List uC->List uC
 |_,[]=>[] |n,e::L=>if e.1=a then(match n with |0=>(e.1,(e.2.1,e.2.2.1,l))::L |n+1=>e::chg a l n L) else e::chg a l n L
def chgN{d:Nat}(h:d≠a)(l:Int)(x:Sk)(L:List uC)(n:Nat):chg a l n ((d,x)::L)=(d,x)::chg a l n L:=by cases n <;> simp[chg,h]
def jI(P:Int->Int)(x:Sk)(r:kf):Int:=fS (λy=>if P y.1<P x.1 then x.2.1*y.2.1 else 0) r
def gL(P:Int->Int)(a b:kf):Int:=fS (λx=>jI P x b) a
variable{A:j0}
theorem NK(nd:(S.map (·.1)).Nodup)(V:x∈S)(Z:∀y∈b,y∈S)(a:i6 x)(t:Int)(v5:j0) :
  ∃D,bW 5 pM (b.map sD) [A,B,!bU S,!↥t,!sD x,v5]=↑(.nx,[A,B,!bU S,!↥(t+jI (aV S) x b),!sD x,D]):=by
 obtain⟨e',h1,D,rfl⟩:=vp (i:=5) (g:=pM) sD (λp e=>∃D,e=[A,B,!bU S,!↥(t+jI (aV S) x p),!sD x,D]) b [A,B,!bU S,!↥t,!sD x,v5] ⟨v5,by simp[jI,fS]⟩ (by
  rintro p y q e c ⟨D,rfl⟩;have d:y∈S:=Z y (by rw[c];simp);have py:=tM nd d;have px:=tM nd V;have U:=wq y;have nx:=wq x;have f:um [sD x]=↑↥x.2.1:=rfl;have I:um [sD y]=↑↥y.2.1:=rfl;have mm:bT ↥x.2.1 ↥y.2.1=↑↥(x.2.1*y.2.1):=wf (qa (by unfold i6 at a;lia));have j:t+jI (aV S) x (p++[y])=t+jI (aV S) x p+(if aV S y.1<aV S x.1 then x.2.1*y.2.1 else 0):=by unfold jI;rw[EA,E9,E8];lia
  refine⟨[A,B,!bU S,!↥(t+jI (aV S) x (p++[y])),!sD x,!sD y],?_,_,rfl⟩;rw[j];generalize t+jI (aV S) x p=u at *;generalize bU S=PL at *;generalize sD x=X at *;generalize sD y=Y at *;by_cases h:aV S y.1<aV S x.1
  ·rw[ax h]
   simp only[pM,bZ,aJ,aD,aB,e9,bc,aC,U,nx,py,px,fB,il h,d6,aG,f,I,mm,iw,af,ah,au,ao,ae,aj]
  ·rw[cb h,Int.add_zero]
   simp only[pM,bZ,aJ,aD,aB,e9,bc,aC,U,nx,py,px,fB,dw h,du,ig,aU,af,ah,au,ao,ae,aj])
 exact⟨D,h1⟩
def NL{a:kf}(nd:(S.map (·.1)).Nodup)(Y:∀y∈a,y∈S)(Z:∀y∈b,y∈S)(c:∀y∈S,i6 y):A0 [bQ a,bQ b,bU S]=↑↥(gL (aV S) a b):=by
 obtain⟨e',h1,I,D,rfl⟩:=vp (i:=4) (g:=Ay) sD (λp e=>∃I D,e=[!bQ a,!bQ b,!bU S,!↥(gL (aV S) p b),I,D]) a [!bQ a,!bQ b,!bU S,!↥0,none,none] ⟨none,none,rfl⟩ (by
  rintro p x q e d ⟨I,D,rfl⟩;have V:=Y x (by rw[d];simp);obtain⟨f,h2⟩:=NK (A:=⇑(bQ a)) (B:=⇑(bQ b)) nd V Z (c x V) (gL (aV S) p b) D;have h:gL (aV S) (p++[x]) b=gL (aV S) p b+jI (aV S) x b:=by unfold gL;rw[EA,E9,E8,Int.add_zero]
  refine⟨[!bQ a,!bQ b,!bU S,!↥(gL (aV S) (p++[x]) b),!sD x,f],?_,_,_,rfl⟩;rw[h];exact h2)
 refine kt (e':=[!bQ a,!bQ b,!bU S,!↥(gL (aV S) a b),I,D]) rfl ?_;show Az [!bQ a,!bQ b,!bU S,none,none,none]=_;have U:bW 4 Ay (a.map sD) [!.lst (a.map sD),!bQ b,!bU S,!↥0,none,none]=_:=h1;rw[show bQ a=.lst (a.map sD) from rfl] at *;generalize a.map sD=AL at *;simp only[Az,aE,aG,fC,bP,cX,aB,U,aM,af,ah,au,ao,ae,aj]
def hd(t:Tn):Int:=(t.2.headD (0,0,0)).1
def fL(t u:Tn):Int:=bA t.2*aP u.2-bA u.2*aP t.2
def hJ(P:Int->Int)(t u:Tn):i0:=if 0<fL t u*gL P t.2 u.2 then[.tup [.str "turned",↥(hd t),↥(hd u),↥(fL t u*gL P t.2 u.2),↥(aP t.2*aP u.2)]] else[]
def fA(P:Int->Int)(t:Tn)(us:kn):i0:=(us.map (hJ P t)).flatten
def NM(P:Int->Int)(t u:Tn):(hJ P t u).length<=1:=by unfold hJ;split <;> simp
theorem AB(P:Int->Int)(t:Tn):∀us:kn,(fA P t us).length<=us.length
 | []=>b6 _ |u::us=>by
   have:=NM P t u;have:=AB P t us;rw[show fA P t (u::us)=hJ P t u++fA P t us from rfl,ak,bf]
   lia
theorem Fa{a b:Int}(h1:0<=a/\a<=1400)(h2:0<=b/\b<=1400):0<=a*b/\a*b<=1960000:=by
 have:=Int.mul_nonneg h1.1 h2.1;have:=Int.mul_le_mul h1.2 h2.2 h2.1 (by decide)
 lia
def cR(t:Tn):D:=.tup [↥(aP t.2),↥(bA t.2)]
def Fb(h:t.2≠[]):bJ (t.2.map sD) 0=↑(sD (t.2.headD (0,0,0))):=by
 cases e:t.2 with
 |nil=>exact absurd e h |cons x r=>exact lC
theorem NN(nd:(S.map (·.1)).Nodup)(V:∀t∈ts,∀x∈t.2,x∈S)(z:∀y∈S,i6 y)(j:∀t∈ts,t.2≠[])(m:∀t∈ts,t.2.length<=14)(hl:ts.length<=14)(hi:i<ts.length)(I:i0)(ha:I.length<=300)(v6 n o p:j0) :
  ∃c f h Z,bW 6 pN (bL ((i:Int)+1) (ts.length-(i+1))) [!.lst (ts.map cR),!(.lst (ts.map λt=>bQ t.2)),!bU S,↑(.ow I),!↥(i:Int),!bQ ts[i].2,v6,n,o,p] =
   ↑(.nx,[!.lst (ts.map cR),!(.lst (ts.map λt=>bQ t.2)),!bU S,↑(.ow (I++fA (aV S) ts[i] (ts.drop (i+1)))),!↥(i:Int),!bQ ts[i].2,c,f,h,Z]):=by
 have A:∀t∈ts,0<=aP t.2/\aP t.2<=840/\0<=bA t.2/\bA t.2<=1400:=λt B=>by
  have:=yf t.2 λx H=>z x (V t B x H);have:=m t B
  lia
 obtain⟨e',h1,c,f,h,Z,rfl⟩:=uk (i:=6) (g:=pN) (λk e=>∃c f h Z,e=[!.lst (ts.map cR),!(.lst (ts.map λt=>bQ t.2)),!bU S,↑(.ow (I++fA (aV S) ts[i] ((ts.drop (i+1)).take k))),!↥(i:Int),!bQ ts[i].2,c,f,h,Z])
  (bL ((i:Int)+1) (ts.length-(i+1))) [!.lst (ts.map cR),!(.lst (ts.map λt=>bQ t.2)),!bU S,↑(.ow I),!↥(i:Int),!bQ ts[i].2,v6,n,o,p] ⟨v6,n,o,p,by rw[List.take_zero];simp[fA]⟩ (by
    rintro k d e q ⟨c,f,h,Z,rfl⟩;obtain⟨rfl,K⟩:=uj q;have r:i+1+k<ts.length:=by lia
    have s:k<(ts.drop (i+1)).length:=by rw[e8];exact K
    have L:(ts.drop (i+1))[k]=ts[i+1+k]:=List.getElem_drop ..;have v:(ts.drop (i+1)).take (k+1)=(ts.drop (i+1)).take k++[ts[i+1+k]]:=by rw[km s,L]
    have N:(i:Int)+1+(k:Int)=((i+1+k:Nat):Int):=by lia
    rw[N,v];have mt:ts[i]∈ts:=gk hi;have w:ts[i+1+k]∈ts:=gk r;have C:bJ (ts.map cR) (i:Int)=↑(cR ts[i]):=md cR (aq hi);have E:bJ (ts.map cR) ((i+1+k:Nat):Int)=↑(cR ts[i+1+k]):=md cR (aq r);have F:bJ (ts.map λt=>bQ t.2) ((i+1+k:Nat):Int)=↑(bQ ts[i+1+k].2):=md (λt:Tn=>bQ t.2) (aq r);have P:(fA (aV S) ts[i] ((ts.drop (i+1)).take k)).length<=14:=by
     have:=AB (aV S) ts[i] ((ts.drop (i+1)).take k);rw[fo,e8] at this
     lia
    have Q:fA (aV S) ts[i] ((ts.drop (i+1)).take k++[ts[i+1+k]])=fA (aV S) ts[i] ((ts.drop (i+1)).take k)++hJ (aV S) ts[i] ts[i+1+k]:=by simp[fA]
    rw[Q,<-cx];generalize fA (aV S) ts[i] ((ts.drop (i+1)).take k)=acc2 at *;have R:cE ((I++acc2).length+1):=few (by rw[ak];lia);generalize I++acc2=M at *;have T:=Fb (j _ mt);have h1:=Fb (j _ w);have th:=NL nd (V _ mt) (V _ w) z;have bt:=A _ mt;have bu:=A _ w;generalize ((i+1+k:Nat):Int)=J at *;generalize ts[i+1+k]=u at *;generalize ts[i]=t at *;have Y:x6 [cR t,cR u]=↑↥(fL t u):=sY _ _ _ _ (qa ∅) (qa ∅);have p1:=Fa (a:=bA t.2) (b:=aP u.2) ∅ ∅;have p2:=Fa (a:=bA u.2) (b:=aP t.2) ∅ ∅;have G:bT ↥(fL t u) ↥(gL (aV S) t.2 u.2)=↑↥(fL t u*gL (aV S) t.2 u.2):=wf (qa (by unfold fL;lia));have m2:bT ↥(aP t.2) ↥(aP u.2)=↑↥(aP t.2*aP u.2):=wf (qa ∅);have W:pd [sD (t.2.headD (0,0,0))]=↑↥(hd t):=wq _;have X:pd [sD (u.2.headD (0,0,0))]=↑↥(hd u):=wq _;have i1:cV (cR t) ↥0=↑↥(aP t.2):=rfl;have i2:cV (cR u) ↥0=↑↥(aP u.2):=rfl;by_cases l:0<fL t u*gL (aV S) t.2 u.2
    ·refine⟨[!.lst (ts.map cR),!(.lst (ts.map λt=>bQ t.2)),!bU S,↑(.ow (M++[.tup [.str "turned",↥(hd t),↥(hd u),↥(fL t u*gL (aV S) t.2 u.2),↥(aP t.2*aP u.2)]])),!↥(i:Int),!bQ t.2,!↥J,!bQ u.2,!↥(fL t u*gL (aV S) t.2 u.2),!↥(aP t.2*aP u.2)],?_,_,_,_,_,by unfold hJ;rw[ax l]⟩
     rw[show bQ t.2=.lst (t.2.map sD) from rfl,show bQ u.2=.lst (u.2.map sD) from rfl] at *;generalize fL t u*gL (aV S) t.2 u.2=O at *;generalize aP t.2*aP u.2=U at *;generalize bU S=PL at *;generalize t.2.map sD=TL at *;generalize u.2.map sD=UL at *;generalize ts.map cR=SHL at *;generalize (ts.map λt=>bQ t.2)=BL at *;generalize cR t=st at *;generalize cR u=su at *;generalize sD (t.2.headD (0,0,0))=x at *;generalize sD (u.2.headD (0,0,0))=y at *;simp[pN,-cV,C,E,F,Y,th,G,m2,l,i1,i2,T,h1,W,X,R]
    ·refine⟨[!.lst (ts.map cR),!(.lst (ts.map λt=>bQ t.2)),!bU S,↑(.ow M),!↥(i:Int),!bQ t.2,!↥J,!bQ u.2,!↥(fL t u*gL (aV S) t.2 u.2),Z],?_,_,_,_,_,by unfold hJ;rw[cb l,c8]⟩
     rw[show bQ u.2=.lst (u.2.map sD) from rfl] at *;generalize fL t u*gL (aV S) t.2 u.2=O at *;generalize bU S=PL at *;generalize bQ t.2=TL at *;generalize u.2.map sD=UL at *;generalize ts.map cR=SHL at *;generalize (ts.map λt=>bQ t.2)=BL at *;generalize cR t=st at *;generalize cR u=su at *;simp[pN,-cV,C,E,F,Y,th,G,l])
 rw[u4,jf (by rw[e8];exact b6 _)] at h1;exact⟨c,f,h,Z,h1⟩
def eR(P:Int->Int)(ts:kn)(n:Nat):i0:=((List.range n).map λi=>fA P (ts.getD i (0,[])) (ts.drop (i+1))).flatten
def Fc(P:Int->Int)(ts:kn)(n:Nat):eR P ts (n+1)=eR P ts n++fA P (ts.getD n (0,[])) (ts.drop (n+1)):=by
 unfold eR;rw[gg,bh,fm];simp
theorem AC(P:Int->Int){ts:kn}(D:ts.length<=14):∀n,(eR P ts n).length<=14*n
 |0=>b6 _ |n+1=>by
   have h1:=AC P D n;have h2:=AB P (ts.getD n (0,[])) (ts.drop (n+1));rw[e8] at h2;rw[Fc,ak]
   lia
theorem Fd{ts:List α}{p q:List (α×Nat)}{x:α×Nat}(h:ts.zipIdx 0=p++x::q):∃hi:p.length<ts.length,x=(ts[p.length],p.length):=by
 have e:(ts.zipIdx 0)[p.length]?=↑x:=by rw[h];simp
 rw[ju] at e;have hi:p.length<ts.length:=by
  by_cases z:p.length<ts.length
  ·exact z
  ·rw[cq ∅] at e;cases e
 rw[aq hi] at e;refine⟨hi,?_⟩;simpa using(b9 e).symm
theorem NO(nd:(S.map (·.1)).Nodup)(I:∀t∈ts,∀x∈t.2,x∈S)(h:∀y∈S,i6 y)(c:∀t∈ts,t.2≠[])(d:∀t∈ts,t.2.length<=14)(f:ts.length<=14) :
  u3 [.lst (ts.map cR),.lst (ts.map λt=>bQ t.2),bU S]=↑(.lst (eR (aV S) ts ts.length)):=by
 obtain⟨e',h1,a,b,U,V,Y,Z,rfl⟩:=xu (ix:=[4,5]) (g:=A1) (λx:Tn×Nat=>[D.int (x.2:Nat),bQ x.1.2]) (λp e=>∃a b U V Y Z,e=[!.lst (ts.map cR),!(.lst (ts.map λt=>bQ t.2)),!bU S,↑(.ow (eR (aV S) ts p.length)),a,b,U,V,Y,Z]) (ts.zipIdx 0)
  [!.lst (ts.map cR),!(.lst (ts.map λt=>bQ t.2)),!bU S,↑(.ow []),none,none,none,none,none,none] ⟨none,none,none,none,none,none,rfl⟩ (λ_ _=>rfl) (by
   rintro p x q e i ⟨a,b,U,V,Y,Z,rfl⟩;obtain⟨hi,ex⟩:=Fd i;subst ex;have j:=AC (aV S) f p.length;obtain⟨k,l,m,n,h2⟩:=NN nd I h c d f hi (eR (aV S) ts p.length) ∅ U V Y Z;have o:ts.getD p.length (0,[])=ts[p.length]:=by rw[aw,aq hi];rfl
   have r:eR (aV S) ts (p++[(ts[p.length],p.length)]).length=eR (aV S) ts p.length++fA (aV S) ts[p.length] (ts.drop (p.length+1)):=by rw[ak,d5,Fc,o]
   refine⟨[!.lst (ts.map cR),!(.lst (ts.map λt=>bQ t.2)),!bU S,↑(.ow (eR (aV S) ts (p++[(ts[p.length],p.length)]).length)),!↥(p.length:Nat),!bQ ts[p.length].2,k,l,m,n],?_,_,_,_,_,_,_,rfl⟩;rw[r];have s:lX [↥((p.length:Int)+1),↥((ts.map λt=>bQ t.2).length:Int)]=↑(bL ((p.length:Int)+1) (ts.length-(p.length+1))):=by
    rw[ai];unfold lX;dsimp only;rw[ax ⟨⟨by lia,by lia⟩,⟨by lia,by lia⟩⟩];congr 2
    lia
   generalize ts[p.length]=t at *;generalize (ts.map λt=>bQ t.2)=BL at *;generalize ts.map cR=SHL at *;generalize bU S=PL at *;generalize bQ t.2=TL at *;generalize eR (aV S) ts p.length=acc at *;simp only[ql,A1,bP,gq,bc,aC,aD,aB,ir,fC,iw,s,h2,af,ah,au,ao,ae,aj])
 have u:(ts.zipIdx 0).length=ts.length:=by simp
 rw[u] at h1;have v:gX 0 [.lst (ts.map λt=>bQ t.2)]=↑((ts.zipIdx 0).map λx:Tn×Nat=>D.tup [D.int (x.2:Nat),bQ x.1.2]):=by
  show ↑(qx 0 (ts.map λt=>bQ t.2))=_;rw[mU]
 refine kt (e':=[!.lst (ts.map cR),!(.lst (ts.map λt=>bQ t.2)),!bU S,!.lst (eR (aV S) ts ts.length),a,b,U,V,Y,Z]) rfl ?_;rw[show kr 10 [.lst (ts.map cR),.lst (ts.map λt=>bQ t.2),bU S]=[!.lst (ts.map cR),!(.lst (ts.map λt=>bQ t.2)),!bU S,none,none,none,none,none,none,none] from rfl];generalize (ts.map λt=>bQ t.2)=BL at *;generalize ts.map cR=SHL at *;generalize bU S=PL at *;generalize ((ts.zipIdx 0).map λx:Tn×Nat=>D.tup [D.int (x.2:Nat),bQ x.1.2])=EN at *;simp only[ED,aE,bM,ij,bc,aC,ci,f9,d6,p8,gq,aB,v,h1,aM,af,ah,au,ao,ae,aj]
def beg(T:kf)(n:Int):Int:=aP (T.takeWhile λx=>not (x.1==n))
def dH(T:kf):D:=.dct (T.map (·.1)) (T.map λx=>D.tup [↥(beg T x.1),↥(beg T x.1+x.2.1)])
def NP{p:kf}(nd:((p++x::q).map (·.1)).Nodup):beg (p++x::q) x.1=aP p:=by
 unfold beg;rw[bh,ko] at nd;rw[List.takeWhile_append_of_pos (λy D=>by
  have:y.1≠x.1:=nd.2.2 y.1 (List.mem_map_of_mem D) x.1 ⋯;simp[this])]
 simp
def Fe:∀(os:g7) (p q:kf),((p++q).map (·.1)).Nodup->os.length=q.length->qb (aP p) (os.zip q)=(os.zip q).map λz=>[z.2.1,(z.1:Int),beg (p++q) z.2.1,beg (p++q) z.2.1+z.2.2.1]
 | [],p,q,_,h=>by cases q with |nil=>rfl |cons x q=>cases h
 |a::os,p,[],_,h=>by cases h
 |a::os,p,x::q,nd,h=>by
   have D:=Fe os (p++[x]) q (by rw[cx];exact nd) (lx h);rw[cx,ui,show aP [x]=x.2.1 by simp[aP]] at D;rw[je,qb,bq,D,NP nd];rfl
theorem NQ(nd:(T.map (·.1)).Nodup)(e:T.length<=100)(I:os.length=T.length):u5 [.lst ((qb 0 (os.zip T)).map iT)]=↑(dH T):=by
 have U:=Fe os [] T nd I;rw[j2,show aP []=0 from rfl] at U;rw[U,dq];have c:=Am (te:=bH (bc (aB 0) (bc (bH (bc (aB 2) (bc (aB 3) (aC)))) (aC)))) (n:=4) (base:=[]) (λz:Nat×Sk=>[D.int z.2.1,↥(z.1:Int),↥(beg T z.2.1),↥(beg T z.2.1+z.2.2.1)]) (λz:Nat×Sk=>D.tup [↥z.2.1,.tup [↥(beg T z.2.1),↥(beg T z.2.1+z.2.2.1)]]) (os.zip T) (λ_ _=>rfl) (λz _=>⟨[!↥z.2.1,!↥(z.1:Int),!↥(beg T z.2.1),!↥(beg T z.2.1+z.2.2.1)],by
  simp[List.range,List.range.loop,ql]⟩)
 have V:(os.zip T).map (·.2)=T:=by rw[ve];rw[I];exact b6 _
 have Y:(os.zip T).map (λz:Nat×Sk=>z.2.1)=T.map (·.1):=by
  rw[<-congrArg (List.map λx:Sk=>x.1) V,dq];rfl
 have a:(os.zip T).map (λz:Nat×Sk=>D.tup [↥(beg T z.2.1),↥(beg T z.2.1+z.2.2.1)])=T.map λx=>D.tup [↥(beg T x.1),↥(beg T x.1+x.2.1)]:=by
  rw[<-congrArg (List.map λx:Sk=>D.tup [↥(beg T x.1),↥(beg T x.1+x.2.1)]) V,dq];rfl
 have Z:=E2 (λz:Nat×Sk=>z.2.1) (λz:Nat×Sk=>D.tup [↥(beg T z.2.1),↥(beg T z.2.1+z.2.2.1)]) (os.zip T) (by rw[Y];exact nd);rw[Y,a] at Z;have b:cE ((os.zip T).map (iT ∘ λz=>[z.2.1,(z.1:Int),beg T z.2.1,beg T z.2.1+z.2.2.1])).length:=few (by rw[ai,ww];lia);refine kt (e':=[!(.lst ((os.zip T).map (iT ∘ λz=>[z.2.1,(z.1:Int),beg T z.2.1,beg T z.2.1+z.2.2.1])))]) rfl ?_;show A2 [!(.lst ((os.zip T).map (iT ∘ λz=>[z.2.1,(z.1:Int),beg T z.2.1,beg T z.2.1+z.2.2.1])))]=_;have d:zd cG (bH (bc (aB 0) (bc (bH (bc (aB 2) (bc (aB 3) (aC)))) (aC)))) 4 [] ((os.zip T).map (iT ∘ λz=>[z.2.1,(z.1:Int),beg T z.2.1,beg T z.2.1+z.2.2.1]))=_:=c;generalize ((os.zip T).map (iT ∘ λz=>[z.2.1,(z.1:Int),beg T z.2.1,beg T z.2.1+z.2.2.1]))=L at *;simp only[A2,aM,e9,bc,aC,aL,mx,cX,aB,af,ae,aj,b,d6,di,d,Z,dH]
def Ff(nd:(T.map (·.1)).Nodup)(I:x∈T):ud (dH T) ↥x.1=↑(.tup [↥(beg T x.1),↥(beg T x.1+x.2.1)]) :=
 An (λy:Sk=>y.1) (λy:Sk=>D.tup [↥(beg T y.1),↥(beg T y.1+y.2.1)]) T nd x I
def kA(T:kf)(x y:Sk)(d:Int):Int:=d*(beg T y.1-(beg T x.1+x.2.1))
def np(T:kf)(r:kf)(k:Nat)(d:Int):i0:=if 0<kA T (r.getD k (0,0,0)) (r.getD (k+1) (0,0,0)) d then[.tup [.str "parted",↥(r.getD k (0,0,0)).1,↥(r.getD (k+1) (0,0,0)).1,↥(kA T (r.getD k (0,0,0)) (r.getD (k+1) (0,0,0)) d),↥(aP r)]] else[]
def hU(T:kf)(r:kf)(I:List (Int×Nat)):i0:=(I.map λz=>np T r z.2 z.1).flatten
def rn(T:kf)(ts:kn):i0:=(ts.map λt=>hU T t.2 ((cU t.2).zipIdx 0)).flatten
def NR(T r:kf)(k:Nat)(d:Int):(np T r k d).length<=1:=by unfold np;split <;> simp
theorem AD(T r:kf):∀D:List (Int×Nat),(hU T r D).length<=D.length
 | []=>b6 _ |z::D=>by
   have:=NR T r z.2 z.1;have:=AD T r D;rw[show hU T r (z::D)=np T r z.2 z.1++hU T r D from rfl,ak,bf]
   lia
theorem Fg(D:∀y∈T,i6 y)(U:T.length<=14)(n:Int):0<=beg T n/\beg T n<=840:=by
 have h1:=yf (T.takeWhile λx=>not (x.1==n)) λx I=>D x ((om _).subset I);have h2:=(om (p:=λx:Sk=>not (x.1==n)) (l:=T)).length_le;unfold beg
 lia
theorem NT(nd:(T.map (·.1)).Nodup)(h:∀y∈T,i6 y)(hT:T.length<=14)(U:∀x∈t.2,x∈T)(J:t.2≠[])(K:t.2.length<=14)(I:i0)(ha:I.length<=300)(v6 j l m Z:j0) :
  ∃b c d f V,u7 [A,B,!dH T,↑(.ow I),!cR t,!bQ t.2,v6,j,l,m,Z]=↑(.nx,[A,B,!dH T,↑(.ow (I++hU T t.2 ((cU t.2).zipIdx 0))),!cR t,!bQ t.2,b,c,d,f,V]):=by
 have L:(cU t.2).length=t.2.length-1:=by unfold cU;rw[Al,qg]
 have a:=MK t.2 (λx N=>h x (U x N)) K;obtain⟨e',h1,b,c,d,f,V,rfl⟩:=xu (ix:=[6,7]) (g:=u6) (λz:Int×Nat=>[D.int (z.2:Nat),D.int z.1]) (λp e=>∃b c d f V,e=[A,B,!dH T,↑(.ow (I++hU T t.2 p)),!cR t,!bQ t.2,b,c,d,f,V]) ((cU t.2).zipIdx 0)
  [A,B,!dH T,↑(.ow I),!cR t,!bQ t.2,v6,j,l,m,Z] ⟨v6,j,l,m,Z,by simp[hU]⟩ (λ_ _=>rfl) (by
   rintro p z q e P ⟨b,c,d,f,V,rfl⟩;obtain⟨hi,Q⟩:=Fd P;have R:p.length+1<t.2.length:=by lia
   have n:z.2=p.length:=by rw[Q]
   have S:=AD T t.2 p;have W:cE ((I++hU T t.2 p).length+1):=few (by rw[ak];lia);have ep:hU T t.2 (p++[z])=hU T t.2 p++np T t.2 z.2 z.1:=by simp[hU]
   rw[ep,<-cx];rw[n];generalize hU T t.2 p=acc2 at *;generalize I++acc2=M at *;obtain⟨x,ex⟩:∃x,x=t.2.getD p.length (0,0,0):=⟨_,rfl⟩;obtain⟨y,ey⟩:∃y,y=t.2.getD (p.length+1) (0,0,0):=⟨_,rfl⟩;have o:t.2[p.length]?=↑x:=by rw[ex,aw,aq ∅];rfl
   have s:t.2[p.length+1]?=↑y:=by rw[ey,aw,aq R];rfl
   have u:bJ (t.2.map sD) (p.length:Int)=↑(sD x):=md sD o;have v:bJ (t.2.map sD) ((p.length:Int)+1)=↑(sD y):=md (k:=p.length+1) sD s;have w:=Ff nd (U x (bn o));have C:=Ff nd (U y (bn s));have bx:=Fg h hT x.1;have bY:=Fg h hT y.1;have r:=h x (U x (bn o));unfold i6 at r;have E:=wq x;have F:=wq y;have mm:bT ↥z.1 ↥(beg T y.1-(beg T x.1+x.2.1))=↑↥(kA T x y z.1):=rJ (qa ∅);have G:cV (.tup [↥(beg T y.1),↥(beg T y.1+y.2.1)]) ↥0=↑↥(beg T y.1):=rfl;have H:cV (.tup [↥(beg T x.1),↥(beg T x.1+x.2.1)]) ↥1=↑↥(beg T x.1+x.2.1):=rfl;have i2:cV (cR t) ↥0=↑↥(aP t.2):=rfl;unfold np;rw[<-ex,<-ey];by_cases i:0<kA T x y z.1
   ·rw[ax i]
    refine⟨[A,B,!dH T,↑(.ow (M++[.tup [.str "parted",↥x.1,↥y.1,↥(kA T x y z.1),↥(aP t.2)]])),!cR t,!bQ t.2,!↥(p.length:Nat),!↥z.1,!↥x.1,!↥y.1,!↥(kA T x y z.1)],?_,_,_,_,_,_,rfl⟩;rw[show bQ t.2=.lst (t.2.map sD) from rfl] at *;obtain⟨ST,eST,i3⟩:∃ST,cR t=.tup ST/\bJ ST 0=↑↥(aP t.2):=⟨_,rfl,rfl⟩;rw[eST] at *;generalize kA T x y z.1=O at *;generalize dH T=SP at *;generalize t.2.map sD=TL at *;generalize sD x=X at *;generalize sD y=Y at *;simp[u6,ql,n,-cV,u,v,E,F,w,C,G,H,i2,i3,mm,i,W]
   ·rw[cb i,c8]
    refine⟨[A,B,!dH T,↑(.ow M),!cR t,!bQ t.2,!↥(p.length:Nat),!↥z.1,!↥x.1,!↥y.1,!↥(kA T x y z.1)],?_,_,_,_,_,_,rfl⟩;rw[show bQ t.2=.lst (t.2.map sD) from rfl] at *;generalize kA T x y z.1=O at *;generalize dH T=SP at *;generalize cR t=ST at *;generalize t.2.map sD=TL at *;generalize sD x=X at *;generalize sD y=Y at *;simp[u6,ql,n,-cV,u,v,E,F,w,C,G,H,mm,i])
 refine⟨b,c,d,f,V,?_⟩;have he:gX 0 [.lst ((cU t.2).map D.int)]=↑(((cU t.2).zipIdx 0).map λz:Int×Nat=>D.tup [D.int (z.2:Nat),D.int z.1]):=by
  show ↑(qx 0 ((cU t.2).map D.int))=_;rw[mU]
 generalize (cU t.2).map D.int=DB at *;generalize (((cU t.2).zipIdx 0).map λz:Int×Nat=>D.tup [D.int (z.2:Nat),D.int z.1])=EN at *;have a:sV [cR t,bQ t.2]=↑(.lst DB):=a;simp only[u7,p8,gq,bc,aC,e9,aB,a,he,h1,af,ah,ae,aj]
theorem AE(T:kf):∀ts:kn,(rn T ts).length<=(flat ts).length
 | []=>b6 _ |t::ts=>by
   have h1:=AE T ts;have h2:=AD T t.2 ((cU t.2).zipIdx 0);have D:(cU t.2).length=t.2.length-1:=by unfold cU;rw[Al,qg]
   rw[List.length_zipIdx] at h2;rw[show rn T (t::ts)=hU T t.2 ((cU t.2).zipIdx 0)++rn T ts from rfl,show flat (t::ts)=t.2++flat ts from rfl,ak,ak]
   lia
theorem NU(nd:(T.map (·.1)).Nodup)(n:∀y∈T,i6 y)(hT:T.length<=14)(U:∀t∈ts,∀x∈t.2,x∈T)(V:∀t∈ts,t.2≠[])(Y:∀t∈ts,t.2.length<=14)(l:(flat ts).length<=14) :
  u8 [.lst (ts.map cR),.lst (ts.map λt=>bQ t.2),dH T]=↑(.lst (rn T ts)):=by
 obtain⟨e',h1,f,h,a,b,c,d,I,rfl⟩:=xu (ix:=[4,5]) (g:=u7) (λt:Tn=>[cR t,bQ t.2]) (λp e=>∃f h a b c d I,e=[!.lst (ts.map cR),!(.lst (ts.map λt=>bQ t.2)),!dH T,↑(.ow (rn T p)),f,h,a,b,c,d,I]) ts
  [!.lst (ts.map cR),!(.lst (ts.map λt=>bQ t.2)),!dH T,↑(.ow []),none,none,none,none,none,none,none] ⟨none,none,none,none,none,none,none,rfl⟩ (λ_ _=>rfl) (by
   rintro p t q e m ⟨f,h,a,b,c,d,I,rfl⟩;have i:t∈ts:=by rw[m];simp
   have z:(rn T p).length<=14:=by
    have:=AE T p;have j:flat ts=flat p++flat (t::q):=by rw[m];simp[flat]
    rw[j,ak] at l
    lia
   obtain⟨o,r,s,u,k,h2⟩:=NT (A:=⇑(.lst (ts.map cR))) (B:=⇑(.lst (ts.map λt=>bQ t.2))) nd n hT (U t i) (V t i) (Y t i) (rn T p) ∅ a b c d I;have j:rn T (p++[t])=rn T p++hU T t.2 ((cU t.2).zipIdx 0):=by simp[rn]
   refine⟨[!.lst (ts.map cR),!(.lst (ts.map λt=>bQ t.2)),!dH T,↑(.ow (rn T (p++[t]))),!cR t,!bQ t.2,o,r,s,u,k],?_,_,_,_,_,_,_,_,rfl⟩;rw[j];exact h2)
 have v:ts.zip ts=ts.map λt=>(t,t):=by
  clear h1 U V Y l;induction ts with
  |nil=>rfl |cons t ts ih=>rw[je,ih];rfl
 have w:kG [.lst (ts.map cR),.lst (ts.map λt=>bQ t.2)]=↑(ts.map λt=>D.tup [cR t,bQ t.2]):=by
  show ↑(eO (ts.map cR) (ts.map λt=>bQ t.2))=_;rw[zU,v,dq];rfl
 refine kt (e':=[!.lst (ts.map cR),!(.lst (ts.map λt=>bQ t.2)),!dH T,!.lst (rn T ts),f,h,a,b,c,d,I]) rfl ?_;rw[show kr 11 [.lst (ts.map cR),.lst (ts.map λt=>bQ t.2),dH T]=[!.lst (ts.map cR),!(.lst (ts.map λt=>bQ t.2)),!dH T,none,none,none,none,none,none,none,none] from rfl];generalize (ts.map λt=>D.tup [cR t,bQ t.2])=Z at *;generalize (ts.map λt=>bQ t.2)=BL at *;generalize ts.map cR=SHL at *;generalize dH T=PL at *;simp only[EE,aE,bM,ij,bc,aC,ci,f9,d6,p8,gq,aB,w,h1,aM,af,ah,au,ao,ae,aj]
theorem NV(ok:aK ss ts)(e:va [aF ss]=↑(.lst (ts.map cF)))(I:aW ss os)(g:∀x∈ss.flatten,i6 x)(nd:(ss.flatten.map (·.1)).Nodup)(r:ss.length<=900)(b:ss.flatten.length<=14) :
  EG [aF ss,.lst (iD os)]=↑(.lst (eR (aV (tk ss os)) ts ts.length++rn (tk ss os) ts)):=by
 have f:os.length<=14:=by rw[I.len];exact b
 have h:=Ak I ∅ ∅;have i:=vw I ∅ ∅;have tl:(tk ss os).length<=14:=by rw[zj];exact f
 have d:=tK I nd;have j:=tL (tk ss os) d ∅;have k:=MH ok ∅ b;have D:∀t∈ts,∀x∈t.2,x∈tk ss os:=λt U x l=>(tJ I).mem_iff.mpr (ok.perm.mem_iff.mp (fy.mpr ⟨t.2,dz.mpr ⟨t,U,rfl⟩,l⟩));have V:∀y∈tk ss os,i6 y:=λy m=>g y (I.sk y m);have Y:∀t∈ts,t.2≠[]:=λt U=>(ok.good t U).ne;have Z:∀t∈ts,t.2.length<=14:=λt U=>cy (ok.len1 t U) b;have fp:=NJ ok;have a:ts.length<=14:=by have:=ok.len;lia
 have n:=NO d D V Y Z a;have o:=NQ (T:=tk ss os) (os:=os) d ∅ (by rw[zj]);have p:=NU d V tl D Y Z (by rw[fp.1];exact b);have c:=vt (te:=e9 wt (bc (aB 0) aC)) (base:=[]) cF cR ts λt _=>⟨_,by simp[DY];exact⟨rfl,rfl⟩⟩;have q:cE (ts.map cF).length:=few (by rw[ai];lia);have s:=AC (aV (tk ss os)) a ts.length;have u:=AE (tk ss os) ts;have f2:cE ((eR (aV (tk ss os)) ts ts.length).length+(rn (tk ss os) ts).length):=few ∅;refine Kt rfl ?_;rw[show kr 7 [aF ss,.lst (iD os)]=[!aF ss,!.lst (iD os),none,none,none,none,none] from rfl];generalize eR (aV (tk ss os)) ts ts.length=TR at *;generalize rn (tk ss os) ts=PA at *;generalize (qb 0 (os.zip (tk ss os))).map iT=PR at *;generalize bU (tk ss os)=PC at *;generalize dH (tk ss os)=SPN at *;generalize (tk ss os).map sD=TK at *;generalize ts.map cF=TN at *;generalize ts.map cR=SHL at *;generalize (ts.map λt=>bQ t.2)=BL at *;generalize iD os=OL at *;generalize aF ss=SS at *;simp only[u9,aE,aG,e9,bc,aC,aB,h,i,j,e,k,aL,j7,cX,q,d6,di,c,aM,cW,n,o,p,f2,af,ah,au,ao,ae,aj];exact⟨_,rfl⟩
theorem NW(Y:SI n i s)(q:n<=5)(st:uA k s d s') :
  (∃(a:Nat) (h l:Int),d.isPut=true/\1<=a/\a<=s.1.length/\s'.1=dC s.1 a (ki k,h,l))\/(d.isPut=false/\∃(b:Nat) (r p:kf),s.1[b-1]?=↑r/\s'.1=s.1.set (b-1) p/\(p.map (·.1)).Sublist (r.map (·.1))):=by
 have l5:s.1.length<=5:=by rw[Y.len];exact q
 have e:∀y∈s.1,y.length<=14:=λy f=>cy (em f).length_le Y.few;obtain⟨D,U,st,_⟩:=st;cases d with
 |dry =>
   right;refine⟨rfl,?_⟩;obtain⟨ts,ok,_⟩:=s_ s.1 Y.good Y.few;have B:0<s.1.flatten.length:=by
    replace D:lB s.1 k.length=none:=D;unfold lB at D;split at D
    ·assumption
    ·cases D
   have u:=Eh ok Y.good Y.few ∅;cases ts with
   |nil =>
     have:=ok.perm.length_eq;simp only[di,List.flatten_nil,ci] at this
     lia
   |cons t ts =>
     obtain⟨a,b⟩:=t;have v:=(ok.good (a,b) ⋯).ne;cases b with
     |nil=>exact absurd rfl v |cons x r =>
       obtain⟨tl,w,o,z,C,E,F,G⟩:=Nd ok Y.good Y.few;have g:=e _ (bn o);have g:tl.length+1<=14:=by simpa using g
       have sp:=NG (num:=ki k) u o z l5 ∅;rw[st] at sp;obtain⟨e1,_⟩:aF s'.1=aF (s.1.set (a-1) tl)/\U=sD x:=by simpa using sp
       exact⟨a,x::tl,tl,o,uB e1,by rw[bq];exact List.sublist_cons_self _ _⟩
 |put a h l =>
   left;replace D:hI s.1 k.length a h l=none:=D;unfold hI at D;split at D
   ·cases D
   ·rename_i c
    obtain⟨I,rfl⟩:∃I:Nat,a=(I:Int):=⟨a.toNat,by lia⟩;have sp:=EX (num:=ki k) (ss:=s.1) (a:=I) (h:=h) (l:=l) ∅ ∅ l5 (by
     rw[aw,aq ∅];have:=e _ (gk (show I-1<s.1.length by lia));exact cy this ∅)
    rw[st] at sp;obtain⟨e1,_⟩:aF s'.1=aF (dC s.1 I (ki k,h,l))/\U=.int (ki k):=by simpa using sp
    exact⟨I,h,l,rfl,by lia,by lia,uB e1⟩
 |go a =>
   right;refine⟨rfl,?_⟩;replace D:A8 s.1 k.length a=none:=D;unfold A8 at D;split at D
   ·cases D
   ·rename_i c
    split at D
    ·cases D
    ·rename_i j
     obtain⟨I,rfl⟩:∃I:Nat,a=(I:Int):=⟨a.toNat,by lia⟩;have V:=EW c;rw[ft] at V j;obtain⟨x,tl,et⟩:∃x tl,s.1.getD (I-1) []=x::tl:=by
      cases h:s.1.getD (I-1) [] with
      |nil=>rw[h] at j;exact absurd rfl j |cons x tl=>exact⟨x,tl,rfl⟩
     rw[et] at V;have g:=e _ (bn V);have g:tl.length+1<=14:=by simpa using g
     have sp:=NF (num:=ki k) V ∅ l5 ∅;rw[st] at sp;obtain⟨e1,_⟩:aF s'.1=aF (s.1.set (I-1) tl)/\U=sD x:=by simpa using sp
     exact⟨I,x::tl,tl,V,uB e1,by rw[bq];exact List.sublist_cons_self _ _⟩
 |tell a m l =>
   right;refine⟨rfl,?_⟩;replace D:A7 s.1 k.length a m l=none:=D;unfold A7 at D;split at D
   ·cases D
   ·rename_i c
    split at D
    ·cases D
    ·rename_i j
     split at D
     ·cases D
     ·rename_i A
      obtain⟨I,rfl⟩:∃I:Nat,a=(I:Int):=⟨a.toNat,by lia⟩;have V:=EW c;rw[ft] at V j A;obtain⟨Z,rfl⟩:∃Z:Nat,m=(Z:Int):=⟨m.toNat,by lia⟩;generalize s.1.getD (I-1) []=t at *;have f:t[Z-1]?=↑(t.getD (Z-1) (0,0,0)):=by rw[aw,aq ∅];rfl
      generalize t.getD (Z-1) (0,0,0)=y at *;have sp:=NE (num:=ki k) (l:=l) V f ∅ ∅ l5;rw[st] at sp;obtain⟨e1,_⟩:aF s'.1=aF (s.1.set (I-1) (t.set (Z-1) (y.1,y.2.1,l)))/\U=.int y.2.2:=by simpa using sp
      refine⟨I,t,_,V,uB e1,?_⟩;have:(t.set (Z-1) (y.1,y.2.1,l)).map (·.1)=t.map (·.1):=by
       rw[kq,show y.1=(t.map (·.1))[Z-1]'(by rw[ai];exact(am.mp f).1) by rw[List.getElem_map,(am.mp f).2]];exact List.set_getElem_self _
      rw[this];exact ua _
def NX{r D:kf}(h:ss[i]?=↑r)(I:(D.map (·.1)).Sublist (r.map (·.1))):((ss.set i D).flatten.map (·.1)).Sublist (ss.flatten.map (·.1)):=by
 induction ss generalizing i with
 |nil=>cases h
 |cons a ss ih =>
   cases i with
   |zero =>
     cases h;rw[ao,de,de,bh,bh];exact I.append (ua _)
   |succ i =>
     rw[au,de,de,bh,bh];exact(ua _).append (ih h)
theorem NY(k:kv)(d:eG):ki (k++[d])=ki k+(if d.isPut=true then 1 else 0):=by
 unfold ki;rw[im,ak];cases h:d.isPut with
 |true=>simp[h];lia |false=>simp[h]
theorem HI.nd_all{n:Nat}{k:kv}{p:k6}{s:Hs}(hi:HI n k p s):∀(i:Nat) (t:Hs),(p++[s])[i]?=↑t->(t.1.flatten.map (·.1)).Nodup/\∀x∈t.1.flatten,x.1<ki (k.take i)
 |0,t,h=>by
   rw[hi.st0] at h;cases h;have:(dG n).1.flatten=[]:=by simp[dG]
   rw[this];exact⟨List.nodup_nil,λx D=>by cases D⟩
 |i+1,t',h=>by
   have g:=(am.mp h).1;rw[ak,d5,hi.kp] at g;have Y:i<k.length:=by lia
   have j:i<(p++[s]).length:=by rw[ak,d5,hi.kp];lia
   have I:(p++[s])[i]?=↑(p++[s])[i]:=aq _;have hd:k[i]?=↑k[i]:=aq Y;have st:=hi.tr i _ _ _ hd I h;obtain⟨Z,U⟩:=HI.nd_all hi i _ I;have m:=NW (hi.all i _ I) hi.n5 st;have o:k.take (i+1)=k.take i++[k[i]]:=km Y;generalize (p++[s])[i]=t at *;rw[o,NY];generalize k[i]=d at *;rcases m with⟨a,q,l,V,w,A,e⟩ | ⟨V,b,r,r',hr,e,sub⟩
   ·rw[V,ax rfl,e]
    have c:=ER (ss:=t.1) (a:=a) (x:=(ki (k.take i),q,l)) ∅;refine⟨(c.map (·.1)).nodup_iff.mpr ?_,λx D=>?_⟩
    ·rw[bq,c7]
     refine⟨λu=>?_,Z⟩;obtain⟨x,D,ex⟩:=dz.mp u;have:=U x D;dsimp only at ex
     lia
    ·rcases cf.mp (c.mem_iff.mp D) with z |z
     ·rw[z];dsimp only;lia
     ·have:=U x z;lia
   ·rw[V,cb (by decide),e,Int.add_zero]
    have f:=NX hr sub;refine⟨Z.sublist f,λx D=>?_⟩;have:x.1∈t.1.flatten.map (·.1):=f.subset (dz.mpr ⟨x,D,rfl⟩);obtain⟨y,v,B⟩:=dz.mp this;have:=U y v
    lia
def HI.nd(hi:HI n k p s):(s.1.flatten.map (·.1)).Nodup:=(hi.nd_all k.length s (by rw[<-hi.kp];simp)).1
def HI.stk(hi:HI n k p s):jH 14 s.1:=⟨hi.l5,hi.at.few,hi.at.good,hi.nd⟩
abbrev Rn:=Bool×Int×Int×Int×Int
inductive lD (N:Int):List Rn->Int->Prop
 |nil:lD N [] 0
 |cons {r:Rn} {l:List Rn} {v V:Int}:N*r.2.2.2.1=v*r.2.2.2.2->lD N l V->lD N (r::l) (v+V)
structure St (l:g8) (w m s:Int):Prop where
 w:w=l.length
 e:l=[]->m=-1/\s=0
 n:l≠[]->m∈l/\(∀x∈l,m<=x)/\s=l.count m
end LB
namespace SQ
open PySem L2 LB
def vv:FS:=aE (bZ (aJ (aD eU (aH 2 (aD bO (aB 3) [:1])) [:0])) (qz "EmptyStack" ((λz=>(↑z).bind ((λz=>((vInt (aB 3)) z).bind ((λz=>(↑z).bind (some)))))))) (aU)) (vm 2 bO (aD bO (aB 3) [:1]) [:1])
def pT:FS:=aE (bM 2 (j7 (cX (aB 0)) [] cG (ir 0))) (aE (bP 3 (cX (aB 1)) (vv)) (bZ (aJ (aD dU (xj 2) [:0])) (qz "ShortOrder" (some)) (aU)))
def pU:ka->i0->jj:=cB 4 0 2 pT
def lE:ka->i0->h7:=xQ 4 0 2 pT
def lF:FS:=cQ (me yt [] (bc (aB 0) (bc (aB 2) (aC)))) (j1 (lh m_ [] (bc (aB 0) (bc (aB 2) (aC)))))
def z9:FS:=aE (bP 2 (cX (aB 1)) (lF)) (cQ (me lE [] (bc (aB 0) (bc (aB 1) (aC)))) (j1 (lh pU [] (bc (aB 0) (bc (aB 1) (aC))))))
def nq:ka->i0->jj:=cB 3 0 2 z9
def z8:ka->i0->h7:=xQ 3 0 2 z9
def Fh:FS:=aE (j1 (qc 3 (aD cV (aH 0 (aD bO (aB 4) [:1])) (aH 2 (aD bO (aB 4) [:1]))))) (vm 2 iw (aD bO (aB 4) [:1]) [:1])
def pV:FS:=aE (cQ (me z8 [] (bc (aB 0) (bc (aB 1) (aC)))) (j1 (lh nq [] (bc (aB 0) (bc (aB 1) (aC)))))) (aE (bM 2 (j7 (cX (aB 0)) [] cG [:0])) (aE (bM 3 (ij (aC))) (aE (bP 4 (cX (aB 1)) (Fh)) (aM (aB 3)))))
def vb:ka->i0->jj:=cB 5 0 2 pV
def qv:ka->i0->h7:=xQ 5 0 2 pV
def Fi:FS:=aE (aG 6 (aD iw (aB 3) (e9 um (bc (aB 5) (aC))))) (aE (j1 (qc 2 (bH (bc (e9 pd (bc (aB 5) (aC))) (bc (aB 4) (bc (aB 3) (bc (aB 6) (aC)))))))) (aG 3 (aB 6)))
def pW:FS:=aE (bM 2 (ij (aC))) (aE (aG 3 [:0]) (aE (cQ (uc (aB 1) (me qv [] (bc (aB 0) (bc (aB 1) (aC))))) (p8 [4,5] (gq kG (bc (aB 1) (bc (lh vb [] (bc (aB 0) (bc (aB 1) (aC)))) (aC)))) (Fi))) (aM (aB 2))))
def nt:ka->i0->jj:=cB 7 0 2 pW
def wv:ka->i0->h7:=xQ 7 0 2 pW
def Fj:FS:=aE (aG 3 (aD iw (aB 3) (e9 um (bc (aB 4) (aC))))) (aG 2 (aD iw (aB 2) (aD bT (e9 zt (bc (aB 4) (aC))) (aB 3))))
def pX:FS:=aE (aG 2 [:0]) (aE (aG 3 [:0]) (aE (cQ (me qv [] (bc (aB 0) (bc (aB 1) (aC)))) (bP 4 (cX (lh vb [] (bc (aB 0) (bc (aB 1) (aC))))) (Fj))) (aM (aB 2))))
def nu:ka->i0->jj:=cB 5 0 2 pX
def wu:ka->i0->h7:=xQ 5 0 2 pX
def NZ:FS:=bZ (aJ (aD fB (aD ud (aB 2) (e9 pd (bc (aB 7) (aC)))) (aD ud (aB 2) (e9 pd (bc (aB 6) (aC)))))) (aE (aG 8 (e9 x6 (bc (e9 mQ (bc (aB 6) (aC))) (bc (e9 mQ (bc (aB 7) (aC))) (aC))))) (j1 (qc 4 (bH (bc (e9 pd (bc (aB 6) (aC))) (bc (e9 pd (bc (aB 7) (aC))) (bc (aB 8) (aC)))))))) (aU)
def Fk:FS:=bP 7 (cX (aL (gG (aB 3) (gB (aD iw (aB 5) [:1])) (gP)))) (NZ)
def pY:FS:=aE (cQ (me qv [] (bc (aB 0) (bc (aB 1) (aC)))) (aG 2 (e9 mR (bc (lh vb [] (bc (aB 0) (bc (aB 1) (aC)))) (aC))))) (aE (cQ (me qv [] (bc (aB 0) (bc (aL (gq zx (bc (aB 0) (aC)))) (aC)))) (aG 3 (lh vb [] (bc (aB 0) (bc (aL (gq zx (bc (aB 0) (aC)))) (aC)))))) (aE (bM 4 (ij (aC))) (aE (p8 [5,6] (gq (gX 0) (bc (aB 3) (aC))) (Fk)) (aM (aB 4)))))
def lG:ka->i0->jj:=cB 9 0 2 pY
def ya:ka->i0->h7:=xQ 9 0 2 pY
def pZ:FS:=aE (cQ (me wv [] (bc (aB 0) (bc (aB 1) (aC)))) (aG 2 (lh nt [] (bc (aB 0) (bc (aB 1) (aC)))))) (aE (cQ (me qv [] (bc (aB 0) (bc (aB 1) (aC)))) (aG 3 (e9 mR (bc (lh vb [] (bc (aB 0) (bc (aB 1) (aC)))) (aC))))) (aE (aG 4 (e9 va (bc (aB 0) (aC)))) (aE (aG 5 (e9 sU (bc (aB 0) (bc (aB 4) (aC))))) (aE (aG 6 (aL (j7 (cX (aB 4)) [] cG (e9 wt (bc (aB 0) (aC)))))) (aM (aL (cW (e9 u3 (bc (aB 6) (bc (aB 5) (bc (aB 3) (aC))))) (e9 u8 (bc (aB 6) (bc (aB 5) (bc (e9 u5 (bc (aB 2) (aC))) (aC))))))))))))
def nw:ka->i0->jj:=cB 7 0 2 pZ
def xy:ka->i0->h7:=xQ 7 0 2 pZ
def aY:FS:=aE (aG 2 (fK (.ins false "House" oa) 0 (lh nn [0] (aC)))) (aE (cQ (me wu [] (bc (aB 2) (bc (aB 1) (aC)))) (aG 3 (aD bO (lh nu [] (bc (aB 2) (bc (aB 1) (aC)))) (e9 sS (bc (aB 2) (aC)))))) (cQ (uc (aB 3) (me ya [] (bc (aB 2) (bc (aB 1) (aC))))) (cQ (uc (aB 3) (uc (lh lG [] (bc (aB 2) (bc (aB 1) (aC)))) (me xy [] (bc (aB 2) (bc (aB 1) (aC)))))) (aM (bH (bc (aB 3) (bc (lh lG [] (bc (aB 2) (bc (aB 1) (aC)))) (bc (lh nw [] (bc (aB 2) (bc (aB 1) (aC)))) (aC)))))))))
def bX:ka->i0->jj:=cB 4 1 1 aY
def bF:ka->i0->h7:=xQ 4 1 1 aY
def ny:FS:=aE (aG 5 (aH 2 (aD iw [:19] (aB 4)))) (aE (aG 6 (aD aZ (aD bV (aB 5) [:9]) (aD iw (ir 3) [:1]))) (bZ (aJ (aD fB (aD aZ (aB 5) [:9]) [:4])) (j1 (wm 3 (aB 6) (aD cV (aL (ij (bc [:0] (bc (aD iw (aB 1) [:1]) (bc (iN fO [:1]) (bc (aD iS [:10] [:12]) (aC))))))) (aD aZ (aB 5) [:9])))) (bZ (aJ (aD fB (aD aZ (aB 5) [:9]) [:6])) (j1 (wm 3 (aB 6) (aD iw [:1] (aD aZ (aD bV (aB 5) [:135]) (e9 iO (bc (aB 1) (bc [:1] (aC)))))))) (bM 3 (cW (aL (gG (aB 3) (gP) (gB (aB 6)))) (aL (gG (aB 3) (gB (aD iw (aB 6) [:1])) (gP))))))))
def AF:FS:=aE (bM 3 (gq tf (bc (aB 0) (aC)))) (aE (bP 4 (gq eV (bc (aD aZ (aH 2 [:18]) [:4]) (aC))) (ny)) (aM (aB 3)))
def AG:i0->jj:=aR 7 3 AF
def yr:FS:=bZ (gK (aJ (aD fB (aB 2) [:1])) (aJ (aD dU (aB 2) (ir 0)))) (aM (bH (bc (fC (.str "refused")) (bc (fC (.str "unknown stack")) (aC))))) (aU)
def zw:FS:=bZ (aJ (aD dU (aD m4 (aB 1) (aD iw (aB 3) [:1])) (e9 hZ (bc (aH 0 (aB 3)) (aC))))) (aM (bH (bc (fC (.str "refused")) (bc (fC (.str "empty stack")) (aC))))) (aU)
def xw:FS:=aE (bP 2 (cX (aB 1)) (yr)) (aE (bP 3 (gq eV (bc (ir 0) (aC))) (zw)) (aE (bZ (aJ (aD fB (ir 1) (e9 gF (bc (aL (j7 (cX (aB 0)) [] cG (ir 0))) (aC))))) (aM (bH (bc (fC (.str "refused")) (bc (fC (.str "short order")) (aC))))) (aU)) (aM (bH (bc (fC (.str "told")) (bc (fC (.bl true)) (aC)))))))
def AH:i0->jj:=aR 4 2 xw
def p_:FS:=cQ (xK (.ins false "House" oa) 1 (yg pL [1] (bc (aD iw (aB 2) [:1]) (bc (aH 3 [:1]) (bc (aH 3 [:2]) (aC)))))) (j1 (fK (.ins false "House" oa) 1 (vk pK [1] (bc (aD iw (aB 2) [:1]) (bc (aH 3 [:1]) (bc (aH 3 [:2]) (aC)))))))
def uD:FS:=bP 3 (gq mL (bc (aH 0 (aB 2)) (aC))) (p_)
def AI:FS:=aE (rV 1 (oO "House" pI (bc (ir 0) (aC)))) (aE (bP 2 (gq eV (bc (ir 0) (aC))) (uD)) (rW 1))
def z7:i0->Option Ag:=iE 4 1 AI
def N_:i0->h7:=xG 4 1 AI
def uE:FS:=aE (bZ (aJ (aD eU (aB 0) [:0])) (cQ (me wv [] (bc (aB 1) (bc (aB 2) (aC)))) (aM (eN "list" (lh nt [] (bc (aB 1) (bc (aB 2) (aC))))))) (aU)) (aE (bZ (aJ (aD eU (aB 0) [:1])) (cQ (me wu [] (bc (aB 1) (bc (aB 2) (aC)))) (aM (e9 mM (bc (lh nu [] (bc (aB 1) (bc (aB 2) (aC)))) (aC))))) (aU)) (aE (bZ (aJ (aD eU (aB 0) [:2])) (cQ (me ya [] (bc (aB 1) (bc (aB 2) (aC)))) (aM (eN "list" (lh lG [] (bc (aB 1) (bc (aB 2) (aC))))))) (aU)) (aE (bZ (aJ (aD eU (aB 0) [:3])) (cQ (me xy [] (bc (aB 1) (bc (aB 2) (aC)))) (aM (eN "list" (lh nw [] (bc (aB 1) (bc (aB 2) (aC))))))) (aU)) (cQ (oU bF (.ins false "House" oa) (mJ z7 (bc (aB 1) (aC))) 2) (aM (eN "tuple" (sr bX (.ins false "House" oa) (mJ z7 (bc (aB 1) (aC))) 2)))))))
def qq:ka->i0->jj:=cB 3 0 3 uE
def zu:ka->i0->h7:=xQ 3 0 3 uE
def q9:FS:=aE (aG 3 (bH (bc (fC (.str "refused")) (bc (fC (.str "")) (aC))))) (aE (iV (cQ (uc (fC (.str "told")) (me zu [] (bc (aB 0) (bc (aB 1) (bc (aB 2) (aC)))))) (aM (bH (bc (fC (.str "told")) (bc (lh qq [] (bc (aB 0) (bc (aB 1) (bc (aB 2) (aC))))) (aC)))))) 4 3 iW) (aM (aB 3)))
def AJ:i0->jj:=aR 5 3 q9
def AM:FS:=aE (aG 7 (aL (gq yM (bc (aB 2) (aC))))) (aE (aG 8 (aL (gq tf (bc (aB 4) (aC))))) (aE (bZ (aJ (aD iY (e9 AJ (bc (aB 6) (bc (aB 7) (bc (aB 8) (aC))))) (aB 5))) (aM (fC (.bl false))) (aU)) (bZ (gK (dS (aJ (e9 yK (bc (aB 7) (bc (aB 2) (aC)))))) (dS (aJ (e9 yU (bc (aB 8) (bc (aB 4) (aC))))))) (aM (fC (.bl false))) (aU))))
def AN:FS:=aE (aG 1 (e9 oZ (bc (aB 0) (bc [:22] (aC))))) (aE (aG 2 (e9 sG (bc (aB 1) (bc [:14] (aC))))) (aE (aG 3 (e9 zB (bc (aB 2) (bc (aD iw (aD bT (aH 1 [:16]) [:2147483647]) (aH 1 [:17])) (aC))))) (aE (aG 4 (e9 AG (bc (aB 3) (bc (ir 2) (bc (aB 1) (aC)))))) (aE (aG 5 (e9 AH (bc (aB 2) (bc (aB 4) (aC))))) (aE (bP 6 (gq eV (bc [:5] (aC))) (AM)) (aM (fC (.bl true))))))))
def Fm:i0->jj:=aR 9 1 AN
end SQ
namespace SQ
open PySem L2 LB PyProof.Rows
def cK(i:Nat):Stmt:=PySem.Challenge.pw_rotstacks_k06_order_refused.main.body.getD i (.Pass ⟨0,0,0,0⟩)
def n0(j:Nat):Stmt:=match cK 75 with | .ClassDef _ _ _ b _ _ _ _ _ _ _=>b.getD j (.Pass ⟨0,0,0,0⟩) |_=>.Pass ⟨0,0,0,0⟩
local macro_rules | `(tactic| walk_at "g") => `(tactic| first | exact vV (by kernel_rfl) | exact wP (by kernel_rfl) | exact xa (by kernel_rfl))
local macro_rules | `(tactic| exists $t:term) => `(tactic| as_aux_lemma => exact $t)
local macro_rules | `(tactic| walk_at "b") => `(tactic| exact ⟨by walk_at "g", by assumption⟩)
def ok_all{P:Program}{w:World}{K:ic}{mg:Str->gx}{C:Addr}(T2:cH K mg (cK 2) "sack_number" ["sack"])(T3:cH K mg (cK 3) "sack_hours" ["sack"])(T4:cH K mg (cK 4) "sack_loss" ["sack"])(T5:cH K mg (cK 5) "sack_share" ["sack"])(T6:cH K mg (cK 6) "sacks_in_all" ["stacks"])(T9:cH K mg (cK 9) "with_stack" ["stacks", "at", "stack"])(b0:cH K mg (cK 12) "share_gap" ["one", "other"])(b1:cH K mg (cK 13) "share_sign" ["one", "other"])(b2:cH K mg (cK 14) "single_block" ["sack"])(b3:cH K mg (cK 15) "joined_block" ["upper", "lower"])(b4:cH K mg (cK 16) "block_share" ["block"])(b5:cH K mg (cK 17) "has_greater_share" ["upper", "lower"])(ca:cH K mg (cK 18) "stack_blocks" ["stack"])(cc:cH K mg (cK 35) "turn_share" ["turn"])(cd:cH K mg (cK 36) "place_of_turn" ["turns", "turn"])(ch:cH K mg (cK 37) "block_turns" ["stacks"])(ck:cH K mg (cK 38) "turn_sacks" ["stacks", "turns"])(cl:cH K mg (cK 39) "told_order" ["stacks"])(a2:cH K mg (cK 40) "check_known" ["stacks", "at"])(a3:cH K mg (cK 41) "check_whole" ["stacks", "order"])(a4:cH K mg (cK 42) "check_order" ["stacks", "order"])(a5:cH K mg (cK 43) "taken_sacks" ["stacks", "order"])(cm:cH K mg (cK 44) "sack_places" ["sacks"])(cn:cH K mg (cK 46) "order_plan" ["stacks", "order"])(a6:cH K mg (cK 47) "order_cost" ["stacks", "order"])(co:cH K mg (cK 48) "least_cost" ["stacks"])(cp:cH K mg (cK 49) "turned_pairs" ["stacks", "order"])(ct:cH K mg (cK 53) "block_debts" ["share", "sacks"])(cu:cH K mg (cK 54) "turned_hours" ["first", "second", "places"])(cv:cH K mg (cK 55) "turned_reasons" ["shares", "blocks", "places"])(c0:cH K mg (cK 56) "plan_spans" ["plan"])(c1:cH K mg (cK 57) "parted_reasons" ["shares", "blocks", "spans"])(da:cH K mg (cK 58) "why_more" ["stacks", "order"])(dd:cH K mg (cK 65) "check_count" ["many"])(dj:cH K mg (cK 66) "check_hours" ["hours"])(dk:cH K mg (cK 67) "check_loss" ["loss"])(dn:cH K mg (cK 68) "check_room" ["stacks"])(dp:cH K mg (cK 72) "check_deeds" ["deeds"])(dr:cH K mg (cK 73) "next_number" ["deeds"])(H:jG K C (n0 0) "__init__" "House.__init__" ["self", "many"])(J:jG K C (n0 1) "piles" "House.piles" ["self"])(L:jG K C (n0 2) "spans" "House.spans" ["self"])(M:jG K C (n0 3) "keep" "House.keep" ["self", "deed", "piles", "spans"])(N:jG K C (n0 4) "put" "House.put" ["self", "at", "hours", "loss"])(O:jG K C (n0 16) "against" "House.against" ["self", "order"])(ds:cH K mg (cK 77) "_law_whole" ["_law_found"])(dt:cH K mg (cK 78) "_law_at" ["_law_script", "_law_k"])(dv:cH K mg (cK 79) "_law_draws" ["_law_script", "_law_many"])(dx:cH K mg (cK 80) "_law_more_below" ["_law_stack"])(d0:cH K mg (cK 81) "_law_stacks" ["_law_draws_here", "_law_most"])(d1:cH K mg (cK 82) "_law_other" ["_law_stacks_here", "_law_figure"])(d2:cH K mg (cK 83) "_law_best" ["_law_sacks"])(d3:cH K mg (cK 84) "_law_turns" ["_law_stacks_here"])(d4:cH K mg (cK 85) "_law_told" ["_law_stacks_here"])(d9:cH K mg (cK 86) "_law_another" ["_law_stacks_here", "_law_figure"])(ea:cH K mg (cK 87) "_law_same_row" ["_law_found", "_law_due_here"])(eb:cH K mg (cK 88) "_law_same_rows" ["_law_found", "_law_due_here"])(ec:cH K mg (cK 89) "_law_same_stacks" ["_law_found", "_law_due_here"])(ee:cH K mg (cK 90) "_law_same_numbers" ["_law_found", "_law_due_here"])(ef:cH K mg (cK 91) "_law_copy" ["_law_stacks_here"])(eg:cH K mg (cK 92) "_law_kind" ["_law_error"])(ei:cH K mg (cK 93) "_law_changed" ["_law_turns_here", "_law_many", "_law_draws_here"])(ej:cH K mg (cK 94) "_law_due" ["_law_stacks_here", "_law_turns_here"])(ek:cH K mg (cK 95) "_law_filled" ["_law_stacks_here"])(el:cH K mg (cK 96) "_law_door" ["_law_door_here", "_law_stacks_here", "_law_turns_here"])(en:cH K mg (cK 97) "_law_answer" ["_law_door_here", "_law_stacks_here", "_law_turns_here"])(hC:Cl K "House" C)(cs:hB K C)(mC:mg "House" = ↑(.ref C))(kC:PySem.W.makesIn K C=true)(pC:PySem.W.keepIn K (.ref C)=true)(Q:PySem.W.findIn K (.ref C) "kept" = ↑none)(A:PySem.W.findIn K (.ref C) "states" = ↑none)(m:jF K mg "BadCount")(o:jF K mg "BadHours")(p:jF K mg "BadLoss")(k:jF K mg "DeedsFull")(e:jF K mg "EmptyStack")(l:jF K mg "HouseFull")(g:jF K mg "ShortOrder")(d:jF K mg "UnknownStack")(Y:∃t,mg "MOST_DEEDS" = ↑(.int 60 t))(Z:∃t,mg "MOST_HOURS" = ↑(.int 60 t))(b:∃t,mg "MOST_LOSS" = ↑(.int 100 t))(U:∃t,mg "MOST_STACKS" = ↑(.int 5 t))(D:∃t,mg "MOST_WAITING" = ↑(.int 14 t))(q:eB K mg)(F:mg "ValueError" = none)(bu:mg "bool" = none)(bv:mg "dict" = none)(R:mg "enumerate" = none)(ep:mg "int" = none)(G:mg "isinstance" = none)(er:mg "len" = none)(bx:mg "list" = none)(es:mg "max" = none)(et:mg "min" = none)(a7:mg "range" = none)(ar:mg "reversed" = none)(eu:mg "str" = none)(ev:mg "sum" = none)(a8:mg "tuple" = none)(ew:mg "zip" = none):∀base f fd,gN K "law" "law" (cK 98) f fd->cJ P w K mg base cD 11 f fd ["_law_script"] (cT K Fm):=by
 intro base;have c:oI K "House" "kept":=⟨C,cs,Q,hC⟩;have V:oI K "House" "states":=⟨C,cs,A,hC⟩;have B:b_ P w K mg base cD "sack_number" 1 (cT K pd):=by exists ke T2 ["sack"] λr a t=>e7 (io (gw dm a))
 have c3:b_ P w K mg base cD "sack_hours" 1 (cT K um):=by exists ke T3 ["sack"] λr a t=>e7 (io (gw dm a))
 have c4:b_ P w K mg base cD "sack_loss" 1 (cT K zt):=by exists ke T4 ["sack"] λr a t=>e7 (io (gw dm a))
 have c5:b_ P w K mg base cD "sack_share" 2 (cT K mQ):=by exists ke T5 ["sack"] λr a t=>e7 (io (m6 (b7 (iq c3 r (b7 (bo a) df)) (b7 (iq c4 r (b7 (bo a) df)) df))))
 have c6:b_ P w K mg base cD "sacks_in_all" 1 (cT K zJ):=by exists ke T6 ["stacks"] λr a t=>e7 (io (v_ (b7 (jg (nY a (l6 (bo a)) (λ_ _ _ _ _ _ _ a=>kg a))) df)))
 have c9:b_ P w K mg base cD "with_stack" 1 (cT K sX):=by exists ke T9 ["stacks", "at", "stack"] λr a t=>e7 (io (jg (rc (jg (rc (jg (xb (bo a) yk (wn (n9 (bo a) dm)))) (jg (kh (b7 (bo a) df))))) (jg (xb (bo a) (wn (bo a)) yk)))))
 have S:b_ P w K mg base cD "share_gap" 1 (cT K x6):=by exists ke b0 ["one", "other"] λr a t=>e7 (io (n9 (qi (gw dm a) (gw dm a)) (qi (gw dm a) (gw dm a))))
 have a9:b_ P w K mg base cD "share_sign" 2 (cT K x9):=by exists ke b1 ["one", "other", "gap"] λr a t=>ed (ib t (iq S r (b7 (bo a) (b7 (bo a) df)))) (ed (j4 (qr (bo a) dm) (e7 (io dm)) j9) (ed (j4 (tj (bo a) dm) (e7 (io (nT dm))) j9) (e7 (io dm))))
 have ex:b_ P w K mg base cD "single_block" 2 (cT K sy):=by exists ke b2 ["sack"] λr a t=>e7 (io (m6 (b7 dm (b7 (iq c3 r (b7 (bo a) df)) (b7 (iq c4 r (b7 (bo a) df)) df)))))
 have ey:b_ P w K mg base cD "joined_block" 1 (cT K sA):=by exists ke b3 ["upper", "lower"] λr a t=>e7 (io (m6 (b7 (lq (gw dm a) (gw dm a)) (b7 (lq (gw dm a) (gw dm a)) (b7 (lq (gw dm a) (gw dm a)) df)))))
 have ba:b_ P w K mg base cD "block_share" 1 (cT K o_):=by exists ke b4 ["block"] λr a t=>e7 (io (m6 (b7 (gw dm a) (b7 (gw dm a) df))))
 have ez:b_ P w K mg base cD "has_greater_share" 3 (cT K yb):=by exists ke b5 ["upper", "lower"] λr a t=>e7 (io (Iu (iq a9 r (b7 (iq ba r (b7 (bo a) df)) (b7 (iq ba r (b7 (bo a) df)) df))) dm))
 have e0:b_ P w K mg base cD "stack_blocks" 4 (cT K y4):=by exists ke ca ["stack", "blocks", "sack", "block"] λr a t=>ed (mz (t.psF (kh df))) (ed (mh (l6 (bo a)) t.pg (ed (ib t (iq ex r (b7 (bo a) df))) (ed (wK (dL (zg (qr (kg a) dm) (zo (ug (re (iq ez r (b7 (gw (nT dm) a) (b7 (bo a) df)))))))) (e7 (ib t (iq ey r (b7 (Jc a) (b7 (bo a) df)))))) (e7 (lv (uz (bo a) a)))))) (e7 (io (bo a))))
 have a0:b_ P w K mg base cD "turn_share" 1 (cT K wt):=by exists ke cc ["turn"] λr a t=>e7 (io (m6 (b7 (gw dm a) (b7 (gw dm a) df))))
 have e1:b_ P w K mg base cD "place_of_turn" 3 (cT K yG):=by exists ke cd ["turns", "turn", "place"] λr a t=>ed (ib t dm) (ed (wK (dL (zg (tj (bo a) (kg a)) (zo (qS (iq a9 r (b7 (iq a0 r (b7 (gw (bo a) a) df)) (b7 (iq a0 r (b7 (bo a) df)) df))) dm)))) (e7 (yj t dm))) (e7 (io (bo a))))
 have bb:b_ P w K mg base cD "block_turns" 5 (cT K va):=by exists ke ch ["stacks", "turns", "at", "stack", "many", "hours", "loss", "turn"] λr a t=>ed (mz (t.psF (kh df))) (ed (zn (JC (b7 (bo a) df)) (mn t (mn t vi)) (e7 (wS (l6 (iq e0 r (b7 (bo a) df))) (mn t (mn t (mn t vi))) (ed (ib t (m6 (b7 (bo a) (b7 (bo a) (b7 (bo a) (b7 (bo a) df)))))) (e7 (lv (rB (JR e1 r (JP (JO (b7 (bo a) df)) a)) (bo a) a))))))) (e7 (io (bo a))))
 have e2:b_ P w K mg base cD "turn_sacks" 1 (cT K sU):=by exists ke ck ["stacks", "turns", "taken", "sacks", "at", "many", "hours", "loss", "begin"] λr a t=>ed (mz (yo a t (l6 (bo a)) (λ_ _ _ _ _ _ _ a=>dm))) (ed (mz (t.psF (kh df))) (ed (wS (l6 (bo a)) (mn t (mn t (mn t (mn t vi)))) (ed (ib t (gw (n9 (bo a) dm) a)) (ed (wL (n9 (bo a) dm) (lq (bo a) (bo a)) a) (e7 (lv (uz (jg (xb (gw (n9 (bo a) dm) a) (wn (bo a)) (wn (lq (bo a) (bo a))))) a)))))) (e7 (io (bo a)))))
 have a1:b_ P w K mg base cD "told_order" 6 (jQ K zx):=by exists rZ cl ["stacks", "order", "at", "many", "hours", "loss"] λr a t=>ed (mz (t.psF (kh df))) (ed (wS (l6 (iq bb r (b7 (bo a) df))) (mn t (mn t (mn t (mn t vi)))) (e7 (lv (JF (Cu (kh (b7 (bo a) df)) (bo a)) a)))) (e7 (wH a)))
 have T:b_ P w K mg base (dM P w) "check_known" 1 (fE K m_ yt):=by exists sj a2 ["stacks", "at"] λr a t=>e7 (j4 (dL (uv (tj (bo a) dm) (uw (qr (bo a) (kg a))))) (e7 (yq d Du)) j9)
 have e3:b_ P w K mg base cD "check_known" 1 (cT K yW):=by exists ke a2 ["stacks", "at"] λr a t=>e7 (j4 (dL (uv (tj (bo a) dm) (uw (qr (bo a) (kg a))))) (e7 wI) j9)
 have bd:b_ P w K mg base (dM P w) "check_whole" 1 (fE K pU lE):=by exists sj a3 ["stacks", "order", "left", "at"] λr a t=>ed (mz (yo a t (l6 (bo a)) (λ_ _ _ _ _ _ _ a=>kg a))) (ed (mh (l6 (bo a)) t.pg (ed (j4 (r8 (gw (n9 (bo a) dm) a) dm) (e7 (yq e (mG (sg xq (sg (mD (bo a)) (sg xq mE)))))) j9) (e7 (CD (n9 (bo a) dm) dm a)))) (e7 (j4 (qr (w_ a) dm) (e7 (yq g Du)) j9)))
 have e4:b_ P w K mg base cD "check_whole" 1 (cT K yY):=by exists ke a3 ["stacks", "order", "left", "at"] λr a t=>ed (mz (yo a t (l6 (bo a)) (λ_ _ _ _ _ _ _ a=>kg a))) (ed (mh (l6 (bo a)) t.pg (ed (j4 (r8 (gw (n9 (bo a) dm) a) dm) (e7 wI) j9) (e7 (CD (n9 (bo a) dm) dm a)))) (e7 (j4 (qr (w_ a) dm) (e7 wI) j9)))
 have be:b_ P w K mg base (dM P w) "check_order" 2 (fE K nq z8):=by exists sj a4 ["stacks", "order", "at"] λr a t=>ed (mh (l6 (bo a)) t.pg (e7 (nz (lv (oh T r (j8 (b7 (bo a) (b7 (bo a) df))))) (wp (oq T r (j8 (b7 (bo a) (b7 (bo a) df)))))))) (e7 (nz (lv (oh bd r (j8 (b7 (bo a) (b7 (bo a) df))))) (wp (oq bd r (j8 (b7 (bo a) (b7 (bo a) df)))))))
 have e5:b_ P w K mg base cD "check_order" 2 (cT K y_):=by exists ke a4 ["stacks", "order", "at"] λr a t=>ed (mh (l6 (bo a)) t.pg (e7 (lv (iq e3 r (b7 (bo a) (b7 (bo a) df)))))) (e7 (lv (iq e4 r (b7 (bo a) (b7 (bo a) df)))))
 have j:b_ P w K mg base (dM P w) "taken_sacks" 3 (fE K vb qv):=by exists sj a5 ["stacks", "order", "taken", "sacks", "at"] λr a t=>ed (nz (lv (oh be r (j8 (b7 (bo a) (b7 (bo a) df))))) (wp (oq be r (j8 (b7 (bo a) (b7 (bo a) df)))))) (ed (mz (yo a t (l6 (bo a)) (λ_ _ _ _ _ _ _ a=>dm))) (ed (mz (t.psF (kh df))) (ed (mh (l6 (bo a)) t.pg (ed (lv (uz (n6 (gw (n9 (bo a) dm) a) (gw (n9 (bo a) dm) a)) a)) (e7 (CB (n9 (bo a) dm) dm a)))) (e7 (io (bo a))))))
 have e6:b_ P w K mg base cD "taken_sacks" 3 (cT K zy):=by exists ke a5 ["stacks", "order", "taken", "sacks", "at"] λr a t=>ed (lv (iq e5 r (b7 (bo a) (b7 (bo a) df)))) (ed (mz (yo a t (l6 (bo a)) (λ_ _ _ _ _ _ _ a=>dm))) (ed (mz (t.psF (kh df))) (ed (mh (l6 (bo a)) t.pg (ed (lv (uz (n6 (gw (n9 (bo a) dm) a) (gw (n9 (bo a) dm) a)) a)) (e7 (CB (n9 (bo a) dm) dm a)))) (e7 (io (bo a))))))
 have X:b_ P w K mg base cD "sack_places" 2 (cT K mR):=by exists ke cm ["sacks"] λr a t=>e7 (io (Db (b7 (jg (CK ["place", "sack"] a (rC (b7 (bo a) df)) (λ_ _ _ _ _ t=>mn t (mn t vi)) (λ_ _ _ _ _ _ _ a=>m6 (b7 (iq B r (b7 (bo a) df)) (b7 (bo a) df))))) df)))
 have aa:b_ P w K mg base (dM P w) "order_plan" 4 (fE K nt wv):=by exists sj cn ["stacks", "order", "plan", "hour", "at", "sack", "dry"] λr a t=>ed (mz (t.psF (kh df))) (ed (ib t dm) (ed (nz (zn (C7 (b7 (bo a) (b7 (oh j r (j8 (b7 (bo a) (b7 (bo a) df)))) df))) (mn t (mn t vi)) (ed (ib t (lq (bo a) (iq c3 r (b7 (bo a) df)))) (ed (lv (uz (m6 (b7 (iq B r (b7 (bo a) df)) (b7 (bo a) (b7 (bo a) (b7 (bo a) df))))) a)) (e7 (ib t (bo a)))))) (DC (Lu (oM (bo a) (zl (oq j r (j8 (b7 (bo a) (b7 (bo a) df))))))))) (e7 (io (bo a)))))
 have ab:b_ P w K mg base (dM P w) "order_cost" 4 (fE K nu wu):=by exists sj a6 ["stacks", "order", "cost", "hour", "sack"] λr a t=>ed (ib t dm) (ed (ib t dm) (ed (nz (mh (l6 (oh j r (j8 (b7 (bo a) (b7 (bo a) df))))) t.pg (ed (yj t (iq c3 r (b7 (bo a) df))) (e7 (yj t (qi (iq c4 r (b7 (bo a) df)) (bo a)))))) (DC (Ls (oq j r (j8 (b7 (bo a) (b7 (bo a) df))))))) (e7 (io (bo a)))))
 have fa:b_ P w K mg base cD "order_cost" 4 (cT K sR):=by exists ke a6 ["stacks", "order", "cost", "hour", "sack"] λr a t=>ed (ib t dm) (ed (ib t dm) (ed (mh (l6 (iq e6 r (b7 (bo a) (b7 (bo a) df)))) t.pg (ed (yj t (iq c3 r (b7 (bo a) df))) (e7 (yj t (qi (iq c4 r (b7 (bo a) df)) (bo a)))))) (e7 (io (bo a)))))
 have fc:b_ P w K mg base cD "least_cost" 7 (cT K sS):=by exists ke co ["stacks"] λr a t=>e7 (io (iq fa r (b7 (bo a) (b7 (jg (lT a1 r (b7 (bo a) df))) df))))
 have E:b_ P w K mg base (dM P w) "turned_pairs" 7 (fE K lG ya):=by exists sj cp ["stacks", "order", "places", "told", "pairs", "place", "ahead", "other", "amount"] λr a t=>ed (nz (ib t (iq X r (b7 (oh j r (j8 (b7 (bo a) (b7 (bo a) df)))) df))) (oK (i:=2) t (x_ X r (zl (oq j r (j8 (b7 (bo a) (b7 (bo a) df)))))))) (ed (nz (ib t (oh j r (j8 (b7 (bo a) (b7 (jg (lT a1 r (b7 (bo a) df))) df))))) (oK (i:=3) t (oq j r (j8 (b7 (bo a) (b7 (jg (lT a1 r (b7 (bo a) df))) df)))))) (ed (mz (t.psF (kh df))) (ed (zn (rC (b7 (bo a) df)) (mn t (mn t vi)) (e7 (mh (l6 (jg (xb (bo a) (wn (lq (bo a) dm)) yk))) t.pg (e7 (j4 (tj (m3 r (bo a) (iq B r (b7 (bo a) df))) (m3 r (bo a) (iq B r (b7 (bo a) df)))) (ed (ib t (iq S r (b7 (iq c5 r (b7 (bo a) df)) (b7 (iq c5 r (b7 (bo a) df)) df)))) (e7 (lv (uz (m6 (b7 (iq B r (b7 (bo a) df)) (b7 (iq B r (b7 (bo a) df)) (b7 (bo a) df)))) a)))) j9))))) (e7 (io (bo a))))))
 have fe:b_ P w K mg base cD "block_debts" 2 (cT K sV):=by exists ke ct ["share", "sacks", "debts", "hours", "loss", "sack"] λr a t=>ed (mz (t.psF (kh df))) (ed (ib t dm) (ed (ib t dm) (ed (mh (l6 (jg (xb (bo a) yk (wn (nT dm))))) t.pg (ed (yj t (iq c3 r (b7 (bo a) df))) (ed (yj t (iq c4 r (b7 (bo a) df))) (e7 (lv (uz (iq S r (b7 (bo a) (b7 (m6 (b7 (bo a) (b7 (bo a) df))) df))) a)))))) (e7 (io (bo a))))))
 have fg:b_ P w K mg base cD "turned_hours" 2 (cT K A0):=by exists ke cu ["first", "second", "places", "total", "one", "two"] λr a t=>ed (ib t dm) (ed (mh (l6 (bo a)) t.pg (e7 (mh (l6 (bo a)) t.pg (e7 (j4 (tj (m3 r (bo a) (iq B r (b7 (bo a) df))) (m3 r (bo a) (iq B r (b7 (bo a) df)))) (e7 (yj t (qi (iq c3 r (b7 (bo a) df)) (iq c3 r (b7 (bo a) df))))) j9))))) (e7 (io (bo a))))
 have fh:b_ P w K mg base cD "turned_reasons" 3 (cT K u3):=by exists ke cv ["shares", "blocks", "places", "reasons", "turn", "first", "later", "second", "over", "under"] λr a t=>ed (mz (t.psF (kh df))) (ed (zn (rC (b7 (bo a) df)) (mn t (mn t vi)) (e7 (mh (IV (b7 (lq (bo a) dm) (b7 (kg a) df))) t.pg (ed (ib t (gw (bo a) a)) (ed (ib t (qi (iq S r (b7 (gw (bo a) a) (b7 (gw (bo a) a) df))) (iq fg r (b7 (bo a) (b7 (bo a) (b7 (bo a) df)))))) (e7 (j4 (qr (bo a) dm) (ed (ib t (qi (n6 (gw (bo a) a) dm) (n6 (gw (bo a) a) dm))) (e7 (lv (uz (m6 (b7 ml (b7 (iq B r (b7 (gw dm a) df)) (b7 (iq B r (b7 (gw dm a) df)) (b7 (bo a) (b7 (bo a) df)))))) a)))) j9))))))) (e7 (io (bo a))))
 have fi:b_ P w K mg base cD "plan_spans" 1 (cT K u5):=by exists ke c0 ["plan"] λr a t=>e7 (io (Db (b7 (jg (CK ["number", "at", "begun", "dry"] a (JT (l6 (bo a))) (λ_ _ _ _ _ t=>mn t (mn t (mn t (mn t vi)))) (λ_ _ _ _ _ _ _ a=>m6 (b7 (bo a) (b7 (m6 (b7 (bo a) (b7 (bo a) df))) df))))) df)))
 have fk:b_ P w K mg base cD "parted_reasons" 3 (cT K u8):=by exists ke c1 ["shares", "blocks", "spans", "reasons", "share", "sacks", "place", "debt", "one", "two", "over"] λr a t=>ed (mz (t.psF (kh df))) (ed (zn (C7 (b7 (bo a) (b7 (bo a) df))) (mn t (mn t vi)) (e7 (zn (rC (b7 (iq fe r (b7 (bo a) (b7 (bo a) df))) df)) (mn t (mn t vi)) (ed (ib t (iq B r (b7 (gw (bo a) a) df))) (ed (ib t (iq B r (b7 (gw (lq (bo a) dm) a) df))) (ed (ib t (qi (bo a) (n9 (n6 (m3 r (bo a) (bo a)) dm) (n6 (m3 r (bo a) (bo a)) dm)))) (e7 (j4 (qr (bo a) dm) (e7 (lv (uz (m6 (b7 ml (b7 (bo a) (b7 (bo a) (b7 (bo a) (b7 (gw dm a) df)))))) a))) j9)))))))) (e7 (io (bo a))))
 have ac:b_ P w K mg base (dM P w) "why_more" 6 (fE K nw xy):=by exists sj da ["stacks", "order", "plan", "places", "turns", "blocks", "shares"] λr a t=>ed (nz (ib t (oh aa r (j8 (b7 (bo a) (b7 (bo a) df))))) (oK (i:=2) t (oq aa r (j8 (b7 (bo a) (b7 (bo a) df)))))) (ed (nz (ib t (iq X r (b7 (oh j r (j8 (b7 (bo a) (b7 (bo a) df)))) df))) (oK (i:=3) t (x_ X r (zl (oq j r (j8 (b7 (bo a) (b7 (bo a) df)))))))) (ed (ib t (iq bb r (b7 (bo a) df))) (ed (ib t (iq e2 r (b7 (bo a) (b7 (bo a) df)))) (ed (ot (yo a t (l6 (bo a)) (λ_ _ _ _ _ _ _ a=>iq a0 r (b7 (bo a) df)))) (e7 (io (jg (rc (iq fh r (b7 (bo a) (b7 (bo a) (b7 (bo a) df)))) (iq fk r (b7 (bo a) (b7 (bo a) (b7 (iq fi r (b7 (bo a) df)) df))))))))))))
 have bk:b_ P w K mg base (dM P w) "check_count" 1 (fE K tN tO):=by exists sj dd ["many"] λr a t=>e7 (j4 (dL (uv (tj (bo a) dm) (uw (qr (bo a) (wo U))))) (e7 (yq m (mG (sg xq (sg (mD (wo U)) (sg xq mE)))))) j9)
 have bl:b_ P w K mg base (dM P w) "check_hours" 1 (fE K tP tQ):=by exists sj dj ["hours"] λr a t=>e7 (j4 (dL (uv (tj (bo a) dm) (uw (qr (bo a) (wo Z))))) (e7 (yq o (mG (sg xq (sg (mD (wo Z)) (sg xq mE)))))) j9)
 have bm:b_ P w K mg base (dM P w) "check_loss" 1 (fE K tR tS):=by exists sj dk ["loss"] λr a t=>e7 (j4 (dL (uv (tj (bo a) dm) (uw (qr (bo a) (wo b))))) (e7 (yq p (mG (sg xq (sg (mD (wo b)) mE))))) j9)
 have bp:b_ P w K mg base (dM P w) "check_room" 2 (fE K tU nb):=by exists sj dn ["stacks"] λr a t=>e7 (j4 (qS (iq c6 r (b7 (bo a) df)) (wo D)) (e7 (yq l (mG (sg (mD (wo D)) (sg xq mE))))) j9)
 have br:b_ P w K mg base (dM P w) "check_deeds" 1 (fE K tX ng):=by exists sj dp ["deeds"] λr a t=>e7 (j4 (qS (kg a) (wo Y)) (e7 (yq k (mG (sg (mD (wo Y)) (sg xq mE))))) j9)
 have fl:b_ P w K mg base cD "next_number" 1 (cT K tY):=by exists ke dr ["deeds"] λr a t=>e7 (io (lq dm (BZ (b7 (jg (IW a (l6 (bo a)) (λ_ _ _ _ _ _ _ a=>r8 (gw dm a) ml) (λ_ _ _ _ _ _ _ a=>bo a))) df))))
 have ag:k_ P w K mg base "House" 2 (iR K pI Au):=by exists KP hC mC kC pC H ["self", "many"] λr a t=>ed (nz (lv (oh bk r (j8 (b7 (bo a) df)))) (wp (oq bk r (j8 (b7 (bo a) df))))) (ed (D4 c a (kh df)) (e7 (D4 V a (kh (b7 (m6 (b7 (jg (nY a (rg (b7 (bo a) df)) (λ_ _ _ _ _ _ _ a=>jg (kh df)))) (b7 (jg (kh df)) df))) df)))))
 have s:fH P w K mg base "House" "piles" 1 (fE K nn Nf):=by exists xP hC cs J ["self"] λr a t=>e7 (io (n6 (Dy (rT V a) (Dx Dw)) dm))
 have al:fH P w K mg base "House" "spans" 1 (fE K t_ Ng):=by exists xP hC cs L ["self"] λr a t=>e7 (io (n6 (Dy (rT V a) (Dx Dw)) dm))
 have an:fH P w K mg base "House" "keep" 1 (iR K pJ Nh):=by exists D6 hC cs M ["self", "deed", "piles", "spans"] λr a t=>ed (lv (Dz (rT c a) (bo a))) (e7 (lv (Dz (rT V a) (m6 (b7 (bo a) (b7 (bo a) df))))))
 have x:fH P w K mg base "House" "put" 3 (iR K pK pL):=by exists D6 hC cs N ["self", "at", "hours", "loss", "piles", "number", "stack"] λr a t=>ed (ib t (xF s r a)) (ed (nz (lv (oh T r (j8 (b7 (bo a) (b7 (bo a) df))))) (wp (oq T r (j8 (b7 (bo a) (b7 (bo a) df)))))) (ed (nz (lv (oh bl r (j8 (b7 (bo a) df)))) (wp (oq bl r (j8 (b7 (bo a) df))))) (ed (nz (lv (oh bm r (j8 (b7 (bo a) df)))) (wp (oq bm r (j8 (b7 (bo a) df))))) (ed (nz (lv (oh bp r (j8 (b7 (bo a) df)))) (wp (oq bp r (j8 (b7 (bo a) df))))) (ed (nz (lv (D2 (λ_ _=>oh br r (j8 (b7 (xO c a) df))))) (wp (KG (λ_ _=>oq br r (j8 (b7 (xO c a) df)))))) (ed (ib t (D2 (λ_ _=>iq fl r (b7 (xO c a) df)))) (ed (ib t (jg (rc (jg (kh (b7 (m6 (b7 (bo a) (b7 (bo a) (b7 (bo a) df)))) df))) (gw (n9 (bo a) dm) a)))) (ed (lv (Dt an r (b7 (m6 (b7 ml (b7 (bo a) (b7 (bo a) (b7 (bo a) df))))) (b7 (iq c9 r (b7 (bo a) (b7 (bo a) (b7 (bo a) df)))) (b7 (xF al r a) df))) a)) (e7 (io (bo a)))))))))))
 have z:fH P w K mg base "House" "against" 8 (fE K bX bF):=by exists xP hC cs O ["self", "order", "piles", "more"] λr a t=>ed (ib t (xF s r a)) (ed (nz (ib t (n9 (oh ab r (j8 (b7 (bo a) (b7 (bo a) df)))) (iq fc r (b7 (bo a) df)))) (oK (i:=3) t (Ly (oq ab r (j8 (b7 (bo a) (b7 (bo a) df))))))) (e7 (nz (nz (io (m6 (b7 (bo a) (b7 (oh E r (j8 (b7 (bo a) (b7 (bo a) df)))) (b7 (oh ac r (j8 (b7 (bo a) (b7 (bo a) df)))) df))))) (ym (xZ (oM (bo a) (oM (oh E r (j8 (b7 (bo a) (b7 (bo a) df)))) (zl (oq ac r (j8 (b7 (bo a) (b7 (bo a) df)))))))))) (ym (xZ (oM (bo a) (zl (oq E r (j8 (b7 (bo a) (b7 (bo a) df)))))))))))
 have ap:b_ P w K mg base cD "_law_whole" 1 (cT K mM):=by exists ke ds ["_law_found"] λr a t=>e7 (io (Iw (uf Jp (bo a)) (Iv (Ix (uf Jq (bo a))))))
 have fp:b_ P w K mg base cD "_law_at" 1 (cT K oY):=by exists ke dt ["_law_script", "_law_k"] λr a t=>ed (j4 (tj (bo a) (kg a)) (e7 (io (gw (bo a) a))) j9) (e7 (io dm))
 have fr:b_ P w K mg base cD "_law_draws" 2 (cT K oZ):=by exists ke dv ["_law_script", "_law_many", "_law_made", "_law_state", "_law_k", "_law_cell"] λr a t=>ed (mz (t.psF (kh df))) (ed (ib t dm) (ed (mh (rg (b7 (bo a) df)) t.pg (ed (ib t (iq fp r (b7 (bo a) (b7 (bo a) df)))) (ed (j4 (r8 (ni (kg a) dm) dm) (ed (ib t (ni (lq (lq (lq (qi (bo a) dm) (bo a)) (bo a)) dm) dm)) (e7 (ib t (ni (qi (lq (bo a) (bo a)) dm) dm)))) j9) (e7 (lv (uz (bo a) a)))))) (e7 (io (bo a)))))
 have fs:b_ P w K mg base cD "_law_more_below" 1 (cT K l0):=by exists ke dx ["_law_stack", "_law_last"] λr a t=>ed (j4 (r8 (kg a) dm) (e7 (io (jg (kh df)))) j9) (ed (ib t (gw (n9 (kg a) dm) a)) (e7 (io (jg (rc (jg (xb (bo a) yk (wn (n9 (kg a) dm)))) (jg (kh (b7 (m6 (b7 (gw dm a) (b7 (gw dm a) (b7 (lq (gw dm a) dm) df)))) df))))))))
 have fv:b_ P w K mg base cD "_law_stacks" 2 (cT K sG):=by exists ke d0 ["_law_draws_here", "_law_most", "_law_many", "_law_count", "_law_menu", "_law_turn", "_law_made", "_law_pool", "_law_k", "_law_cell", "_law_hours", "_law_loss", "_law_place", "_law_number"] λr a t=>ed (ib t (n6 (jg (kh (b7 dm (b7 dm (b7 dm (b7 dm (b7 dm (b7 dm (b7 dm (b7 dm (b7 dm (b7 dm (b7 dm (b7 dm df)))))))))))))) (ni (gw dm a) dm))) (ed (ib t (n9 (bo a) (ni (tm (gw dm a) dm) (lq (bo a) dm)))) (ed (ib t (ni (tm (gw dm a) dm) dm)) (ed (ib t (ni (tm (gw dm a) dm) dm)) (ed (Jg (Jj a t (rg (b7 (bo a) df)) (λ_ _ _ _ _ _ _ a=>kh df))) (ed (mz (t.psF (IN (b7 dm (b7 dm df))))) (ed (mh (rg (b7 (qi (bo a) (IG (b7 (bo a) (b7 dm df)))) df)) t.pg (ed (ib t (gw (lq dm (bo a)) a)) (ed (ib t (lq dm (ni (bo a) dm))) (ed (ib t (ni (tm (bo a) dm) dm)) (ed (j4 (r8 (bo a) dm) (ed (ib t (lq dm (ni (bo a) (n9 dm (qi dm (bo a)))))) (e7 (ib t (ni (tm (bo a) dm) (n9 dm (qi dm (bo a))))))) j9) (ed (j4 (r8 (bo a) dm) (ed (ib t (n6 (jg (kh (b7 dm (b7 dm (b7 dm (b7 dm df)))))) (ni (bo a) dm))) (e7 (ib t (n6 (jg (kh (b7 dm (b7 dm (b7 dm (b7 dm df)))))) (ni (tm (bo a) dm) dm))))) j9) (ed (j4 (r8 (bo a) dm) (ed (ib t (n6 (jg (kh (b7 (bo a) (b7 (lq dm (ni (bo a) dm)) df)))) (bo a))) (e7 (ib t (bo a)))) j9) (ed (ib t (ni (n6 (jg (kh (b7 (tm (bo a) dm) (b7 (bo a) df)))) (qi (tm (bo a) dm) (bo a))) (bo a))) (ed (ib t (Cr (ni (tm (bo a) dm) (kg a)) a)) (e7 (lv (Jo (bo a) (λ_ _=>m6 (b7 (bo a) (b7 (bo a) (b7 (bo a) df)))) a)))))))))))) (ed (j4 (dL (zg (r8 (bo a) dm) (zo (r8 (bo a) dm)))) (e7 (ot (yo a t (l6 (bo a)) (λ_ _ _ _ _ _ _ a=>iq fs r (b7 (bo a) df))))) j9) (e7 (io (bo a))))))))))
 have fw:b_ P w K mg base cD "_law_other" 1 (jQ K zA):=by exists rZ d1 ["_law_stacks_here", "_law_figure", "_law_left", "_law_made", "_law_k", "_law_some", "_law_place"] λr a t=>ed (mz (t.psF (nY a (l6 (bo a)) (λ_ _ _ _ _ _ _ a=>kg a)))) (ed (mz (t.psF (kh df))) (ed (mh (rg (b7 (w_ a) df)) t.pg (ed (ot (JN a t (JG (rg (b7 (kg a) df))) (λ_ _ _ _ _ _ _ a=>qr (gw (bo a) a) dm) (λ_ _ _ _ _ _ _ a=>bo a))) (ed (ib t (gw (ni (bo a) (kg a)) a)) (ed (ib t (tm (bo a) (kg a))) (ed (wL (bo a) (n9 (gw (bo a) a) dm) a) (e7 (lv (uz (lq (bo a) dm) a)))))))) (e7 (wH a))))
 have f0:b_ P w K mg base cD "_law_best" 1 (cT K pf):=by exists ke d2 ["_law_sacks", "_law_best_here", "_law_hours", "_law_loss", "_law_k"] λr a t=>ed (ib t (jg (kh (b7 dm (b7 dm (b7 (nT dm) df)))))) (ed (ib t dm) (ed (ib t dm) (ed (mh (rg (b7 (kg a) df)) t.pg (ed (ib t (lq (bo a) (n6 (gw (bo a) a) dm))) (ed (ib t (lq (bo a) (n6 (gw (bo a) a) dm))) (e7 (j4 (qS (qi (bo a) (gw dm a)) (qi (gw dm a) (bo a))) (e7 (ib t (jg (kh (b7 (lq (bo a) dm) (b7 (bo a) (b7 (bo a) df))))))) j9))))) (e7 (io (bo a))))))
 have f1:b_ P w K mg base cD "_law_turns" 2 (cT K pu):=by exists ke d3 ["_law_stacks_here", "_law_left", "_law_made", "_law_heads", "_law_pick", "_law_k"] λr a t=>ed (mz (yo a t (l6 (bo a)) (λ_ _ _ _ _ _ _ a=>jg (qU (b7 (bo a) df))))) (ed (mz (t.psF (kh df))) (ed (wK (qr (v_ (b7 (jg (JL a (CF a) (λ_ _ _ _ _ _ _ a=>kg a))) df)) dm) (ed (ot (JM a t (CF a) (λ_ _ _ _ _ _ _ a=>iq f0 r (b7 (bo a) df)))) (ed (ib t dm) (ed (mh (rg (b7 (kg a) df)) t.pg (e7 (j4 (qr (qi (n6 (gw (bo a) a) dm) (n6 (gw (bo a) a) dm)) (qi (n6 (gw (bo a) a) dm) (n6 (gw (bo a) a) dm))) (e7 (ib t (bo a))) j9))) (ed (lv (uz (m6 (b7 (lq (bo a) dm) (b7 (n6 (gw (bo a) a) dm) (b7 (n6 (gw (bo a) a) dm) (b7 (n6 (gw (bo a) a) dm) df))))) a)) (e7 (wL (bo a) (jg (xb (gw (bo a) a) (wn (n6 (gw (bo a) a) dm)) yk)) a))))))) (e7 (io (bo a)))))
 have f2:b_ P w K mg base cD "_law_told" 3 (jQ K yR):=by exists rZ d4 ["_law_stacks_here", "_law_made", "_law_turn"] λr a t=>ed (mz (t.psF (kh df))) (ed (mh (l6 (iq f1 r (b7 (bo a) df))) t.pg (e7 (mz (t.psF (rc (bo a) (jg (Cu (kh (b7 (gw dm a) df)) (gw dm a)))))))) (e7 (wH a)))
 have f3:b_ P w K mg base cD "_law_another" 4 (cT K zB):=by exists ke d9 ["_law_stacks_here", "_law_figure", "_law_rest", "_law_made", "_law_number"] λr a t=>ed (ib t (tm (bo a) dm)) (ed (mz (t.psF (lT fw r (b7 (bo a) (b7 (bo a) df))))) (ed (j4 (dL (zg (r8 (ni (bo a) dm) dm) (zo (qr (kg a) dm)))) (ed (mz (t.psF (lT f2 r (b7 (bo a) df)))) (ed (ib t (Cr (ni (bo a) (kg a)) a)) (e7 (lv (rB (ni (tm (bo a) dm) (lq (kg a) dm)) (bo a) a))))) j9) (e7 (io (bo a)))))
 have f4:b_ P w K mg base cD "_law_same_row" 2 (cT K yC):=by exists ke ea ["_law_found", "_law_due_here", "_law_k"] λr a t=>ed (j4 (dL (uv (ug (re (uf wR (bo a)))) (uw (lS (kg a) (kg a))))) (e7 (io qk)) j9) (ed (mh (rg (b7 (kg a) df)) t.pg (ed (j4 (dL (zg (re (uf wQ (gw (bo a) a))) (zo (ug (re (uf wQ (gw (bo a) a))))))) (e7 (io qk)) j9) (ed (j4 (dL (zg (ug (re (uf wQ (gw (bo a) a)))) (zo (ug (re (iq ap r (b7 (gw (bo a) a) df))))))) (e7 (io qk)) j9) (e7 (j4 (lS (gw (bo a) a) (gw (bo a) a)) (e7 (io qk)) j9))))) (e7 (io qk)))
 have f5:b_ P w K mg base cD "_law_same_rows" 3 (cT K sI):=by exists ke eb ["_law_found", "_law_due_here", "_law_k"] λr a t=>ed (j4 (dL (uv (ug (re (uf xr (bo a)))) (uw (lS (kg a) (kg a))))) (e7 (io qk)) j9) (ed (mh (rg (b7 (kg a) df)) t.pg (e7 (j4 (ug (re (iq f4 r (b7 (gw (bo a) a) (b7 (gw (bo a) a) df))))) (e7 (io qk)) j9))) (e7 (io qk)))
 have ga:b_ P w K mg base cD "_law_same_stacks" 4 (cT K yK):=by exists ke ec ["_law_found", "_law_due_here", "_law_k"] λr a t=>ed (j4 (dL (uv (ug (re (uf xr (bo a)))) (uw (lS (kg a) (kg a))))) (e7 (io qk)) j9) (ed (mh (rg (b7 (kg a) df)) t.pg (e7 (j4 (ug (re (iq f5 r (b7 (gw (bo a) a) (b7 (gw (bo a) a) df))))) (e7 (io qk)) j9))) (e7 (io qk)))
 have gb:b_ P w K mg base cD "_law_same_numbers" 2 (cT K yU):=by exists ke ee ["_law_found", "_law_due_here", "_law_k"] λr a t=>ed (j4 (dL (uv (ug (re (uf xr (bo a)))) (uw (lS (kg a) (kg a))))) (e7 (io qk)) j9) (ed (mh (rg (b7 (kg a) df)) t.pg (e7 (j4 (dL (uv (ug (re (iq ap r (b7 (gw (bo a) a) df)))) (uw (lS (gw (bo a) a) (gw (bo a) a))))) (e7 (io qk)) j9))) (e7 (io qk)))
 have gd:b_ P w K mg base cD "_law_copy" 1 (jQ K yM):=by exists rZ ef ["_law_stacks_here"] λr a t=>e7 (Jb (nY a (l6 (bo a)) (λ_ _ _ _ _ _ _ a=>jg (qU (b7 (bo a) df)))))
 obtain⟨RA,hR,hS⟩:=q.rot;have kk:r_ P w K mg base "_law_kind" 1 iW:=by exists Lp eg ["_law_error", "_law_kinds", "_law_words", "_law_found"] NC λu v y a t=>ed (ib t (jg (kh (b7 (ue q u v y a) (b7 (ue q u v y a) df))))) (ed (ib t (jg (rc (bo a) (jg (kh (b7 (ue q u v y a) (b7 (ue q u v y a) df))))))) (ed (ib t (jg (rc (bo a) (jg (kh (b7 (ue q u v y a) (b7 (ue q u v y a) df))))))) (ed (ib t (jg (rc (bo a) (jg (kh (b7 (ue q u v y a) (b7 (ue q u v y a) df))))))) (ed (ib t (jg (rc (bo a) (jg (kh (b7 (ue q u v y a) (b7 (ue q u v y a) df))))))) (ed (ib t (jg (rc (bo a) (jg (kh (b7 (ue q u v y a) (b7 (ue q u v y a) df))))))) (ed (ib t (jg (rc (bo a) (jg (kh (b7 (ue q u v y a) df)))))) (ed (ib t (jg (kh (b7 ml (b7 ml (b7 ml (b7 ml (b7 ml (b7 ml df))))))))) (ed (ib t (jg (rc (bo a) (jg (kh (b7 ml (b7 ml (b7 ml (b7 ml (b7 ml df)))))))))) (ed (ib t (jg (rc (bo a) (jg (kh (b7 ml (b7 ml df))))))) (ed (ot (Je (λ_ _ _ _ _ _ _ I h=>y.comp I h) a t (Ce (λit lo n=>Lc it lo n) (b7 dm df)) (λ_ _ _ _ _ _ _ y a=>dL (zg (re (gw (bo a) a)) (zo (re (Lo q u v y a))))) (λ_ _ _ _ _ _ _ y a=>gw (bo a) a))) (e7 (io (Lj (b7 (jg (rc (jg (kh (b7 ml df))) (bo a))) df))))))))))))))
 have gj:b_ P w K mg base cD "_law_changed" 1 (cT K AG):=by exists ke ei ["_law_turns_here", "_law_many", "_law_draws_here", "_law_made", "_law_k", "_law_cell", "_law_place"] λr a t=>ed (mz (t.psF (qU (b7 (bo a) df)))) (ed (mh (rg (b7 (ni (gw dm a) dm) df)) t.pg (ed (ib t (gw (lq dm (bo a)) a)) (ed (ib t (ni (tm (bo a) dm) (lq (kg a) dm))) (e7 (j4 (tj (ni (bo a) dm) dm) (e7 (lv (rB (bo a) (n6 (jg (kh (b7 dm (b7 (lq (bo a) dm) (b7 (nT dm) (b7 (KM dm dm) df)))))) (ni (bo a) dm)) a))) (e7 (j4 (tj (ni (bo a) dm) dm) (e7 (lv (rB (bo a) (lq dm (ni (tm (bo a) dm) (IF (b7 (bo a) (b7 dm df))))) a))) (e7 (mz (t.psF (rc (jg (xb (bo a) yk (wn (bo a)))) (jg (xb (bo a) (wn (lq (bo a) dm)) yk))))))))))))) (e7 (io (bo a))))
 have gp:b_ P w K mg base cD "_law_due" 1 (cT K AH):=by exists ke ej ["_law_stacks_here", "_law_turns_here", "_law_at_here", "_law_k"] λr a t=>ed (mh (l6 (bo a)) t.pg (e7 (j4 (dL (uv (tj (bo a) dm) (uw (qr (bo a) (kg a))))) (e7 (io (m6 (b7 ml (b7 ml df))))) j9))) (ed (mh (rg (b7 (kg a) df)) t.pg (e7 (j4 (qr (Kn (bo a) (lq (bo a) dm)) (BZ (b7 (gw (bo a) a) df))) (e7 (io (m6 (b7 ml (b7 ml df))))) j9))) (ed (j4 (tj (kg a) (v_ (b7 (jg (nY a (l6 (bo a)) (λ_ _ _ _ _ _ _ a=>kg a))) df))) (e7 (io (m6 (b7 ml (b7 ml df))))) j9) (e7 (io (m6 (b7 ml (b7 qk df)))))))
 have bs:b_ P w K mg base (dM P w) "_law_filled" 4 (rX K z7 N_):=by exists KO ek ["_law_stacks_here", "_law_house", "_law_k", "_law_sack"] λr a t=>ed (K9 t (KD ag r (b7 (kg a) df))) (ed (mh (rg (b7 (kg a) df)) t.pg (e7 (mh (KW (b7 (gw (bo a) a) df)) t.pg (e7 (nz (lv (Dt x r (b7 (lq (bo a) dm) (b7 (gw dm a) (b7 (gw dm a) df))) a)) (wp (K5 x r (b7 (lq (bo a) dm) (b7 (gw dm a) (b7 (gw dm a) df))) a))))))) (e7 (KA a)))
 have bt:b_ P w K mg base (dM P w) "_law_door" 9 (fE K qq zu):=by exists sj el ["_law_door_here", "_law_stacks_here", "_law_turns_here"] λr a t=>ed (j4 (r8 (bo a) dm) (e7 (nz (io (uf xr (oh aa r (j8 (b7 (bo a) (b7 (bo a) df)))))) (ym (si xr (oq aa r (j8 (b7 (bo a) (b7 (bo a) df)))))))) j9) (ed (j4 (r8 (bo a) dm) (e7 (nz (io (iq ap r (b7 (oh ab r (j8 (b7 (bo a) (b7 (bo a) df)))) df))) (ym (x_ ap r (zl (oq ab r (j8 (b7 (bo a) (b7 (bo a) df))))))))) j9) (ed (j4 (r8 (bo a) dm) (e7 (nz (io (uf xr (oh E r (j8 (b7 (bo a) (b7 (bo a) df)))))) (ym (si xr (oq E r (j8 (b7 (bo a) (b7 (bo a) df)))))))) j9) (ed (j4 (r8 (bo a) dm) (e7 (nz (io (uf xr (oh ac r (j8 (b7 (bo a) (b7 (bo a) df)))))) (ym (si xr (oq ac r (j8 (b7 (bo a) (b7 (bo a) df)))))))) j9) (e7 (nz (io (uf wR (Lv (D1 bs r (b7 (bo a) df)) z r a))) (ym (si wR (Lw (D1 bs r (b7 (bo a) df)) z r a))))))))
 have gr:b_ P w K mg base cD "_law_answer" 10 (cT K AJ):=by exists ke en ["_law_door_here", "_law_stacks_here", "_law_turns_here", "_law_refused", "e"] λr a t=>ed (ib t (m6 (b7 ml (b7 ml df)))) (ed (Lm hR hS kk r a t (λ_ _ a t=>e7 (nz (io (m6 (b7 ml (b7 (oh bt r (j8 (b7 (bo a) (b7 (bo a) (b7 (bo a) df))))) df)))) (ym (xZ (oM ml (zl (oq bt r (j8 (b7 (bo a) (b7 (bo a) (b7 (bo a) df)))))))))))) (e7 (io (bo a))))
 exact KQ ["_law_script", "_law_draws_here", "_law_stacks_here", "_law_whole_here", "_law_turns_here", "_law_due_here", "_law_door_here", "_law_handed", "_law_given"] λr a t=>ed (ib t (iq fr r (b7 (bo a) (b7 dm df)))) (ed (ib t (iq fv r (b7 (bo a) (b7 dm df)))) (ed (ib t (iq f3 r (b7 (bo a) (b7 (lq (qi (gw dm a) dm) (gw dm a)) df)))) (ed (ib t (iq gj r (b7 (bo a) (b7 (kg a) (b7 (bo a) df))))) (ed (ib t (iq gp r (b7 (bo a) (b7 (bo a) df)))) (ed (mh (rg (b7 dm df)) t.pg (ed (ib t (jg (lT gd r (b7 (bo a) df)))) (ed (ib t (jg (qU (b7 (bo a) df)))) (ed (j4 (L1 r (iq gr r (b7 (bo a) (b7 (bo a) (b7 (bo a) df)))) (bo a)) (e7 (io qk)) j9) (e7 (j4 (dL (uv (ug (re (iq ga r (b7 (bo a) (b7 (bo a) df))))) (uw (ug (re (iq gb r (b7 (bo a) (b7 (bo a) df)))))))) (e7 (io qk)) j9)))))) (e7 (io qk)))))))
end SQ
namespace SQ
open PySem L2 LB
variable{F:FA}{e:aQ}{r:i0×aQ}
def gU{m:ka->i0->h7}(h:F e=↑r):me m [] F e=(m [] r.1).map λc=>(c,r.2):=by
 unfold me;rw[ax (show fF e [] from λk I=>by cases I),h];rfl
def iJ{m:ka->i0->jj}(h:F e=↑r):lh m [] F e=(m [] r.1).map λd=>(d,r.2):=by
 unfold lh;rw[ax (show fF e [] from λk I=>by cases I),h];rfl
variable{ss:kl}
theorem Fn(O:D):∀(os:g8) (v:j0),((∀a∈os,1<=a/\a<=ss.length)->∃Z,bW 2 lF (os.map D.int) [!aF ss,!O,v]=↑(.nx,[!aF ss,!O,Z])) /\
  ((∃a∈os,a<1\/ss.length<a)->∃e',bW 2 lF (os.map D.int) [!aF ss,!O,v]=↑(.xc "UnknownStack",e'))
 | [],v=>⟨λ_=>⟨v,rfl⟩,λ⟨a,h,_⟩=>by cases h⟩
 |a::os,v=>by
   have V:=Fn O os ⇑↥a;have c:=λ(m:ka->i0->h7)=>gU (m:=m) (F:=bc (aB 0) (bc (aB 2) aC)) (e:=[!aF ss,!O,!↥a]) (r:=([aF ss,↥a],[!aF ss,!O,!↥a])) rfl;have d:=λ(m:ka->i0->jj)=>iJ (m:=m) (F:=bc (aB 0) (bc (aB 2) aC)) (e:=[!aF ss,!O,!↥a]) (r:=([aF ss,↥a],[!aF ss,!O,!↥a])) rfl;have I:=c yt;have Y:=d m_;by_cases U:1<=a/\a<=ss.length
   ·obtain⟨k1,k2⟩:=EL (ss:=ss) U.1 U.2
    rw[k1] at I;rw[k2] at Y;have st:bW 2 lF ((a::os).map D.int) [!aF ss,!O,v]=bW 2 lF (os.map D.int) [!aF ss,!O,!↥a]:=by
     rw[bq,bW];generalize aF ss=SL at *;simp[lF,cQ,I,Y]
    rw[st];exact⟨λh=>V.1 λb hb=>h b (ay _ hb),λ⟨b,hb,h⟩=>V.2 (by
     rcases cf.mp hb with rfl |hb
     ·lia
     ·exact⟨b,hb,h⟩)⟩
   ·have k1:=Nq (ss:=ss) (a:=a) ∅
    rw[k1] at I;refine⟨λh=>absurd (h a bi) U,λ_=>⟨[!aF ss,!O,!↥a],?_⟩⟩;rw[bq,bW];generalize aF ss=SL at *;simp[lF,cQ,I]
theorem Fo(m:ss.length<=5)(O:D):∀(q p:g7) (v:j0),(∀a∈q,1<=a/\a<=ss.length)->(∀j,j<ss.length->0<=aN ss p j) ->
  ((∀j,j<ss.length->0<=aN ss (p++q) j)->∃n,bW 3 vv (iD q) [!aF ss,!O,↑(.ow (aX ss.length (aN ss p))),v]=↑(.nx,[!aF ss,!O,↑(.ow (aX ss.length (aN ss (p++q)))),n])) /\
  ((∃j,j<ss.length/\aN ss (p++q) j<0)->∃e',bW 3 vv (iD q) [!aF ss,!O,↑(.ow (aX ss.length (aN ss p))),v]=↑(.xc "EmptyStack",e'))
 | [],p,v,_,hp=>⟨λ_=>⟨v,by rw[c8];rfl⟩,λ⟨j,Z,h⟩=>by rw[c8] at h;have:=hp j Z;lia⟩ |a::q,p,v,hq,hp=>by
   obtain⟨o,x⟩:=hq a bi;have g:(a:Int)-1=((a-1:Nat):Int):=by lia
   have U:=mY ss.length (aN ss p) (a-1) ∅;have V:=Ad ss.length (aN ss p) (a-1) ∅;have y:=hp (a-1) ∅;have d:p++a::q=(p++[a])++q:=by simp
   by_cases Y:aN ss p (a-1)=0
   ·have r:aN ss (p++a::q) (a-1)<0:=by
     unfold aN at Y ⊢;rw[show a-1+1=a by lia] at Y ⊢;rw[t9,List.count_cons_self]
     lia
    refine⟨λh=>by have:=h (a-1) ∅;lia,λ_=>⟨[!aF ss,!O,↑(.ow (aX ss.length (aN ss p))),!↥(a:Int)],?_⟩⟩;rw[Y] at U;show((vv [!aF ss,!O,↑(.ow (aX ss.length (aN ss p))),!↥(a:Int)]).bind _)=_;have ab:(a:Int).natAbs<1000000:=by lia
    generalize aX ss.length (aN ss p)=L at *;generalize aF ss=SL at *;have e:vv [!SL,!O,↑(.ow L),!↥(a:Int)]=↑(.xc "EmptyStack",[!SL,!O,↑(.ow L),!↥(a:Int)]):=by
     simp[vv,g,U,qz,vInt,show a<1000000 by lia]
    rw[e];rfl
   ·obtain⟨k,l⟩:=Af ss p a o
    have I:=pG ss.length (aN ss p) (aN ss (p++[a])) (a-1) (λi _ hi=>l i hi);rw[k] at I;have s:decide (aN ss p (a-1)=0)=false:=dw Y;have f:a-1<(aX ss.length (aN ss p)).length:=by rw[zp];lia
    have t:(0:Int)<=((a-1:Nat):Int):=by lia
    have u:=Fo m O q (p++[a]) ⇑↥(a:Int) (λb w=>hq b (ay _ w)) λj Z=>by
     by_cases c:j=a-1
     ·subst c;rw[k];lia
     ·rw[l j c];exact hp j Z
    have st:bW 3 vv (iD (a::q)) [!aF ss,!O,↑(.ow (aX ss.length (aN ss p))),v]=bW 3 vv (iD q) [!aF ss,!O,↑(.ow (aX ss.length (aN ss (p++[a])))),!↥(a:Int)]:=by
     show((vv [!aF ss,!O,↑(.ow (aX ss.length (aN ss p))),!↥(a:Int)]).bind _)=_;have e:vv [!aF ss,!O,↑(.ow (aX ss.length (aN ss p))),!↥(a:Int)]=↑(.nx,[!aF ss,!O,↑(.ow (aX ss.length (aN ss (p++[a])))),!↥(a:Int)]):=by
      rw[<-I];generalize aX ss.length (aN ss p)=L at *;simp only[vv,aE,bZ,aU,vm,oA,aJ,aD,aH,cP,aB,fC,bO,eU,af,ah,ae,aj,ao,au,g,U,s,du,ig,t,d6,ft,V,f]
     rw[e];rfl
    rw[st,d];exact u
noncomputable def left(ss:kl)(os:g7):Int:=((List.range ss.length).map (aN ss os)).sum
theorem Oa(b:ss.length<=5)(os:g7)(c:∀a∈os,1<=a/\a<=ss.length) :
  ((∃j,j<ss.length/\aN ss os j<0)->lE [] [aF ss,.lst (iD os)]=↑("EmptyStack" : Str)) /\
  ((∀j,j<ss.length->0<=aN ss os j)->0<left ss os->lE [] [aF ss,.lst (iD os)]=↑("ShortOrder" : Str)) /\
  ((∀j,j<ss.length->0<=aN ss os j)->¬0<left ss os->lE [] [aF ss,.lst (iD os)]=none/\pU [] [aF ss,.lst (iD os)]=some .non):=by
 have V:=Fo b (.lst (iD os)) os [] none c λj e=>by
  unfold aN;simp
 rw[j2] at V;have I:=tG ss.length (aN ss os);have Y:=tF ss;have Z:cE (ss.map λs=>D.lst (s.map sD)).length:=few (by rw[ai];lia);unfold lE pU xQ cB;rw[ax ⟨rfl,rfl⟩,ax ⟨rfl,rfl⟩,show my 4 [] [aF ss,.lst (iD os)]=[!aF ss,!.lst (iD os),none,none] from rfl];refine⟨λh=>?_,λh U=>?_,λh U=>?_⟩
 ·obtain⟨e',h1⟩:=V.2 h
  unfold aF at *;generalize iD os=O at *;generalize (ss.map λs=>D.lst (s.map sD))=L at *;simp[pT,j7,Z,Y,h1]
 ·obtain⟨d,h1⟩:=V.1 h
  unfold left at U;unfold aF at *;generalize iD os=O at *;generalize (ss.map λs=>D.lst (s.map sD))=L at *;simp[pT,j7,Z,Y,h1,xj,I,U,qz]
 ·obtain⟨d,h1⟩:=V.1 h
  unfold left at U;unfold aF at *;generalize iD os=O at *;generalize (ss.map λs=>D.lst (s.map sD))=L at *;simp[pT,j7,Z,Y,h1,xj,I,U]
open Classical in
noncomputable def cls(ss:kl)(os:g8):h7 :=
 if ∃a∈os,a<1\/(ss.length:Int)<a then some "UnknownStack" else if ∃j,j<ss.length/\aN ss (os.map Int.toNat) j<0 then some "EmptyStack" else if 0<left ss (os.map Int.toNat) then some "ShortOrder" else none
variable{n:Nat}{os:g8}
theorem AO(h:∀a∈os,1<=a/\a<=(n:Int)):os.map D.int=iD (os.map Int.toNat)/\∀b∈os.map Int.toNat,1<=b/\b<=n:=by
 constructor
 ·unfold iD
  rw[dq];exact jx λa I=>by
   have:=h a I;show D.int a=D.int ((a.toNat:Nat):Int);rw[Int.toNat_of_nonneg ∅]
 ·intro b U
  obtain⟨a,I,rfl⟩:=dz.mp U;have:=h a I
  lia
theorem AQ(h:¬ ∃a∈os,a<1\/(ss.length:Int)<a):∀a∈os,1<=a/\a<=(ss.length:Int):=λa D=>by
 by_cases c:1<=a/\a<=(ss.length:Int)
 ·exact c
 ·exact absurd ⟨a,D,by lia⟩ h
theorem Fp(n:ss.length<=5)(os:g8):z8 [] [aF ss,.lst (os.map D.int)]=cls ss os/\(cls ss os=none->nq [] [aF ss,.lst (os.map D.int)]=some .non):=by
 have d:=Fn (ss:=ss) (.lst (os.map D.int)) os none;unfold z8 nq xQ cB;rw[ax ⟨rfl,rfl⟩,ax ⟨rfl,rfl⟩,show my 3 [] [aF ss,.lst (os.map D.int)]=[!aF ss,!.lst (os.map D.int),none] from rfl];unfold cls;by_cases U:∃a∈os,a<1\/(ss.length:Int)<a
 ·rw[ax U]
  obtain⟨e',h1⟩:=d.2 U;refine⟨?_,λh=>by cases h⟩;generalize os.map D.int=OS at *;generalize aF ss=SL at *;simp[z9,h1]
 ·rw[cb U]
  have f:=AQ U;obtain⟨V,h1⟩:=d.1 f;obtain⟨o,k2⟩:=AO f;obtain⟨g,i,k⟩:=Oa n (os.map Int.toNat) k2;rw[<-o] at g i k;have I:=gU (m:=lE) (F:=bc (aB 0) (bc (aB 1) aC)) (e:=[!aF ss,!.lst (os.map D.int),V]) (r:=([aF ss,.lst (os.map D.int)],[!aF ss,!.lst (os.map D.int),V])) rfl;have b:=iJ (m:=pU) (F:=bc (aB 0) (bc (aB 1) aC)) (e:=[!aF ss,!.lst (os.map D.int),V]) (r:=([aF ss,.lst (os.map D.int)],[!aF ss,!.lst (os.map D.int),V])) rfl;by_cases Y:∃j,j<ss.length/\aN ss (os.map Int.toNat) j<0
  ·rw[ax Y]
   rw[g Y] at I;refine⟨?_,λh=>by cases h⟩;generalize os.map D.int=OS at *;generalize aF ss=SL at *;simp[z9,h1,cQ,I]
  ·rw[cb Y]
   have l:∀j,j<ss.length->0<=aN ss (os.map Int.toNat) j:=λj p=>by
    by_cases c:0<=aN ss (os.map Int.toNat) j
    ·exact c
    ·exact absurd ⟨j,p,by lia⟩ Y
   by_cases Z:0<left ss (os.map Int.toNat)
   ·rw[ax Z]
    rw[i l Z] at I;refine⟨?_,λh=>by cases h⟩;generalize os.map D.int=OS at *;generalize aF ss=SL at *;simp[z9,h1,cQ,I]
   ·rw[cb Z]
    obtain⟨q,s⟩:=k l Z;rw[q] at I;rw[s] at b;generalize os.map D.int=OS at *;generalize aF ss=SL at *;constructor
    ·simp[z9,h1,cQ,I,b]
    ·intro _
     simp[z9,h1,cQ,I,b]
theorem Fq(f:Nat->Int):∀n:Nat,(∀j,j<n->0<=f j)->0<=((List.range n).map f).sum/\(((List.range n).map f).sum<=0->∀j,j<n->f j=0)
 |0,_=>⟨by simp,λ_ j D=>by lia⟩ |n+1,h=>by
   obtain⟨h1,h2⟩:=Fq f n λj D=>h j ∅;have I:=h n ∅;rw[gg,bh,gf];simp only[bq,di,gc,t5];refine⟨by lia,λU j D=>?_⟩;by_cases c:j=n
   ·subst c;lia
   ·exact h2 ∅ j ∅
theorem Fs(h:cls ss os=none):∃ns,os.map D.int=iD ns/\aW ss ns:=by
 unfold cls at h;split at h
 ·cases h
 ·rename_i V
  split at h
  ·cases h
  ·rename_i Y
   split at h
   ·cases h
   ·rename_i Z
    obtain⟨a,k2⟩:=AO (AQ V);refine⟨_,a,k2,λj s U=>?_⟩;have I:=(am.mp U).1;have z:=(Fq (aN ss (os.map Int.toNat)) ss.length λj I=>by
     by_cases c:0<=aN ss (os.map Int.toNat) j
     ·exact c
     ·exact absurd ⟨j,I,by lia⟩ Y).2 (by unfold left at Z;lia) j I
    unfold aN at z;rw[aw,U] at z;simp only[Option.getD_some] at z
    lia
def Ft{D:kl}(h:D.map List.length=ss.map List.length)(os:g8):cls D os=cls ss os:=by
 have I:D.length=ss.length:=by simpa using congrArg List.length h
 have U:∀p,aN D p=aN ss p:=λp=>by
  funext j;unfold aN;have e:∀t:kl,(t.getD j []).length=(t.map List.length).getD j 0:=λt=>by
   rw[aw,aw,bj];cases t[j]? <;> rfl
  rw[e D,e ss,h]
 unfold cls left;rw[I,U]
variable{ns:g7}
theorem Fu(D:aW ss ns):cls ss (ns.map λn:Nat=>(n:Int))=none:=by
 have e:(ns.map λn:Nat=>(n:Int)).map Int.toNat=ns:=by
  rw[dq];exact(jx λa _=>by simp).trans (List.map_id ns)
 unfold cls left;rw[e,cb,cb,cb]
 ·rw[Ai (aN ss ns) ss.length λj I=>Ah D j I]
  lia
 ·rintro⟨j,I,h⟩
  rw[Ah D j I] at h
  lia
 ·rintro⟨a,U,h⟩
  obtain⟨b,V,rfl⟩:=dz.mp U;have:=D.lo b V
  lia
def Ob(I:ss.length<=5)(U:aW ss ns):z8 [] [aF ss,.lst (iD ns)]=none/\nq [] [aF ss,.lst (iD ns)]=some .non:=by
 have h:=Fp I (ns.map λn:Nat=>(n:Int));have z:=Fu U;rw[show(ns.map λn:Nat=>(n:Int)).map D.int=iD ns by unfold iD;rw[dq];rfl] at h;exact⟨h.1.trans z,h.2 z⟩
abbrev F2:FA:=bc (aB 0) (bc (aB 1) aC)
def f2(a b:D)(e:aQ):F2 (⇑a::⇑b::e)=↑([a,b],⇑a::⇑b::e):=by
 simp[bc,aC]
def x2(m:ka->i0->h7)(a b:D)(e:aQ):me m [] F2 (⇑a::⇑b::e)=(m [] [a,b]).map λc=>(c,⇑a::⇑b::e):=gU (f2 a b e)
def m2(m:ka->i0->jj)(a b:D)(e:aQ):lh m [] F2 (⇑a::⇑b::e)=(m [] [a,b]).map λc=>(c,⇑a::⇑b::e):=iJ (f2 a b e)
variable{f:Nat->Nat}{d:D}
def qd{f g:FS}{ds:i0}(h:aR n 2 g ds=↑d)(e:f (kr n ds)=g (kr n ds)):xQ n 0 2 f [] ds=none/\cB n 0 2 f [] ds=↑d:=by
 unfold aR at h;split at h
 ·rename_i I
  unfold xQ cB;rw[ax ⟨rfl,I⟩,ax ⟨rfl,I⟩,show my n [] ds=kr n ds from rfl,e];refine⟨?_,h⟩;split
  ·rename_i c e' U
   rw[U] at h;cases h
  ·rfl
 ·cases h
theorem qA(I:ss.length<=5)(D:aW ss ns)(V:ns.length<=14):qv [] [aF ss,.lst (iD ns)]=none/\vb [] [aF ss,.lst (iD ns)]=↑(.lst ((tk ss ns).map sD)):=by
 obtain⟨h1,h2⟩:=Ob I D;have U:=Ep D ∅;refine qd (vw D ∅ ∅) ?_;show pV [!aF ss,!.lst (iD ns),none,none,none]=p3 [!aF ss,!.lst (iD ns),none,none,none];unfold pV p3;have a:=x2 z8 (aF ss) (.lst (iD ns)) [none,none,none];have b:=m2 nq (aF ss) (.lst (iD ns)) [none,none,none];rw[h1] at a;rw[h2] at b;rw[show Fh=pw from rfl];generalize aE (bM 2 (j7 (cX (aB 0)) [] cG [:0])) _=R at *;generalize aF ss=SL at *;generalize iD ns=OS at *;simp only[aE,cQ,j1,e9,bc,aC,aB,U,a,b,af,ah,fx,aj,ae]
variable{c:Str}
def AR(I:ss.length<=5)(h:cls ss os=↑c):qv [] [aF ss,.lst (os.map D.int)]=↑c:=by
 have a:=x2 z8 (aF ss) (.lst (os.map D.int)) [none,none,none];rw[(Fp I os).1,h] at a;unfold qv xQ;rw[ax ⟨rfl,rfl⟩,show my 5 [] [aF ss,.lst (os.map D.int)]=[!aF ss,!.lst (os.map D.int),none,none,none] from rfl];unfold pV;simp only[aE,cQ,a,aj,ae]
theorem Fv(I:ss.length<=5)(D:aW ss ns)(U:ns.length<=14):wv [] [aF ss,.lst (iD ns)]=none/\nt [] [aF ss,.lst (iD ns)]=↑(.lst ((qb 0 (ns.zip (tk ss ns))).map iT)):=by
 obtain⟨h1,h2⟩:=qA I D U;have V:=vw D ∅ ∅;refine qd (Ak D ∅ ∅) ?_;show pW [!aF ss,!.lst (iD ns),none,none,none,none,none]=p4 [!aF ss,!.lst (iD ns),none,none,none,none,none];have a:=x2 qv (aF ss) (.lst (iD ns)) [↑(.ow []),!↥0,none,none,none];have b:=m2 vb (aF ss) (.lst (iD ns)) [↑(.ow []),!↥0,none,none,none];rw[h1] at a;rw[h2] at b;unfold pW p4;rw[show Fi=sP from rfl];generalize aF ss=SL at *;generalize iD ns=OS at *;generalize (tk ss ns).map sD=TK at *;simp only[aE,bM,aG,cQ,uc,p8,ij,aC,fC,gq,e9,bc,aB,V,a,b,ao,au,af,ah,fx,aj,ae,ci,f9,d6]
def Fw(I:ss.length<=5)(h:cls ss os=↑c):wv [] [aF ss,.lst (os.map D.int)]=↑c:=by
 have a:=x2 qv (aF ss) (.lst (os.map D.int)) [↑(.ow []),!↥0,none,none,none];rw[AR I h] at a;unfold wv xQ;rw[ax ⟨rfl,rfl⟩,show my 7 [] [aF ss,.lst (os.map D.int)]=[!aF ss,!.lst (os.map D.int),none,none,none,none,none] from rfl];unfold pW;simp only[aE,bM,aG,cQ,uc,ij,aC,fC,aB,a,ao,au,af,ah,aj,ae,ci,f9,d6]
theorem Fx(I:ss.length<=5)(U:∀x∈ss.flatten,i6 x)(D:aW ss ns)(V:ns.length<=14):wu [] [aF ss,.lst (iD ns)]=none/\nu [] [aF ss,.lst (iD ns)]=↑↥(oo 0 (tk ss ns)):=by
 obtain⟨h1,h2⟩:=qA I D V;have Y:=vw D ∅ ∅;refine qd (Ew D U ∅ ∅) ?_;show pX [!aF ss,!.lst (iD ns),none,none,none]=p5 [!aF ss,!.lst (iD ns),none,none,none];have a:=x2 qv (aF ss) (.lst (iD ns)) [!↥0,!↥0,none];have b:=m2 vb (aF ss) (.lst (iD ns)) [!↥0,!↥0,none];rw[h1] at a;rw[h2] at b;unfold pX p5;rw[show Fj=sQ from rfl];generalize aF ss=SL at *;generalize iD ns=OS at *;generalize (tk ss ns).map sD=TK at *;simp only[aE,aG,cQ,bP,cX,aC,fC,e9,bc,aB,Y,a,b,ao,au,af,ah,fx,aj,ae]
def Fy(I:ss.length<=5)(h:cls ss os=↑c):wu [] [aF ss,.lst (os.map D.int)]=↑c:=by
 have a:=x2 qv (aF ss) (.lst (os.map D.int)) [!↥0,!↥0,none];rw[AR I h] at a;unfold wu xQ;rw[ax ⟨rfl,rfl⟩,show my 5 [] [aF ss,.lst (os.map D.int)]=[!aF ss,!.lst (os.map D.int),none,none,none] from rfl];unfold pX;simp only[aE,aG,cQ,fC,a,ao,au,aj,ae]
variable{ts:kn}
theorem Fz(ok:aK ss ts)(V:va [aF ss]=↑(.lst (ts.map cF)))(U:aW ss ns)(Z:jH 14 ss):ya [] [aF ss,.lst (iD ns)]=none/\∃l,lG [] [aF ss,.lst (iD ns)]=↑(.lst l):=by
 have e:=Z.many;have I:=Z.tot;obtain⟨h1,h2⟩:=qA e U (by rw[U.len];exact I);have j:=vw U ∅ (by rw[U.len];lia);obtain⟨k,n⟩:=qA e ok.whole (by rw[ok.whole.len];exact I);have o:=vw ok.whole ∅ (by rw[ok.whole.len];lia);have Y:=Aa ok V I;have c:=tL (tk ss ns) (tK U Z.nd) (by rw[zj,U.len];lia);refine(λh:_/\_=>⟨h.1,_,h.2⟩) (qd (MU ok V U Z) ?_);show pY [!aF ss,!.lst (iD ns),none,none,none,none,none,none,none]=pA [!aF ss,!.lst (iD ns),none,none,none,none,none,none,none];have a:=x2 qv (aF ss) (.lst (iD ns)) [none,none,none,none,none,none,none];have b:=m2 vb (aF ss) (.lst (iD ns)) [none,none,none,none,none,none,none];rw[h1] at a;rw[h2] at b;have f:=λ(d:D)=>show bc (aB 0) (bc (aL (gq zx (bc (aB 0) aC))) aC) [!aF ss,!.lst (iD ns),!d,none,none,none,none,none,none]=↑([aF ss,.lst (iD (j6 ts))],[!aF ss,!.lst (iD ns),!d,none,none,none,none,none,none]) from by
  generalize aF ss=SL at *;generalize iD ns=OS at *;generalize iD (j6 ts)=TO at *;simp only[aL,gq,bc,aC,aB,Y,af,aj,ae]
 have g:=λd=>gU (m:=qv) (f d);have i:=λd=>iJ (m:=vb) (f d);simp only[k,n,fx,aj] at g i;unfold pY pA;rw[show Fk=sW from rfl];generalize aF ss=SL at *;generalize iD ns=OS at *;generalize iD (j6 ts)=TO at *;generalize (tk ss ns).map sD=TK at *;generalize (tk ss (j6 ts)).map sD=TT at *;simp only[aE,aG,cQ,e9,bc,aC,aB,aL,gq,Y,c,j,o,a,b,g,i,ao,au,af,ah,fx,aj,ae]
def Oc(I:ss.length<=5)(h:cls ss os=↑c):ya [] [aF ss,.lst (os.map D.int)]=↑c:=by
 have a:=x2 qv (aF ss) (.lst (os.map D.int)) [none,none,none,none,none,none,none];rw[AR I h] at a;unfold ya xQ;rw[ax ⟨rfl,rfl⟩,show my 9 [] [aF ss,.lst (os.map D.int)]=[!aF ss,!.lst (os.map D.int),none,none,none,none,none,none,none] from rfl];unfold pY;simp only[aE,aG,cQ,a,aj,ae]
theorem F0(ok:aK ss ts)(V:va [aF ss]=↑(.lst (ts.map cF)))(D:aW ss ns)(U:jH 14 ss):xy [] [aF ss,.lst (iD ns)]=none/\∃l,nw [] [aF ss,.lst (iD ns)]=↑(.lst l):=by
 have Z:=U.many;have I:=U.tot;obtain⟨h1,h2⟩:=qA Z D (by rw[D.len];exact I);obtain⟨f,g⟩:=Fv Z D (by rw[D.len];exact I);have i:=vw D ∅ (by rw[D.len];lia);have j:=Ak D ∅ (by rw[D.len];lia);have Y:=tL (tk ss ns) (tK D U.nd) (by rw[zj,D.len];lia);refine(λh:_/\_=>⟨h.1,_,h.2⟩) (qd (NV ok V D U.good U.nd ∅ I) ?_);show pZ [!aF ss,!.lst (iD ns),none,none,none,none,none]=u9 [!aF ss,!.lst (iD ns),none,none,none,none,none];have a:=x2 wv (aF ss) (.lst (iD ns)) [none,none,none,none,none];have b:=m2 nt (aF ss) (.lst (iD ns)) [none,none,none,none,none];have c:=λd=>x2 qv (aF ss) (.lst (iD ns)) [!d,none,none,none,none];have e:=λd=>m2 vb (aF ss) (.lst (iD ns)) [!d,none,none,none,none];simp only[h1,h2,f,g,fx,aj] at a b c e;unfold pZ u9;generalize aF ss=SL at *;generalize iD ns=OS at *;generalize (tk ss ns).map sD=TK at *;generalize (qb 0 (ns.zip (tk ss ns))).map iT=PL at *;generalize k:aE (aG 4 (e9 va (bc (aB 0) (aC)))) _=R at *;clear k;simp only[aE,aG,cQ,e9,bc,aC,aB,Y,i,j,a,b,c,e,ao,au,af,ah,fx,aj,ae]
def Od(I:ss.length<=5)(h:cls ss os=↑c):xy [] [aF ss,.lst (os.map D.int)]=↑c:=by
 have a:=x2 wv (aF ss) (.lst (os.map D.int)) [none,none,none,none,none];rw[Fw I h] at a;unfold xy xQ;rw[ax ⟨rfl,rfl⟩,show my 7 [] [aF ss,.lst (os.map D.int)]=[!aF ss,!.lst (os.map D.int),none,none,none,none,none] from rfl];unfold pZ;simp only[aE,aG,cQ,a,aj,ae]
structure Un (n:Nat) (f:Nat->Nat) (K:kv) (p:k6) (s:Hs):Prop where
 hi:HI n K p s
 fl:s.1.flatten.length=K.length
 nx:ki K=K.length+1
 ln:∀j,j<n->(s.1.getD j []).length=f j
abbrev EF(A:D)(K:kv)(p:k6)(s:Hs)(v2 v3:j0):aQ:=[!A,↑(.ag kH none (hP K (p++[s]))),v2,v3]
variable{A:D}{i:Nat}{K:kv}{p:k6}{s:Hs}
theorem AS(u:Un n f K p s)(v:i<n)(w:K.length<14){x:Sk}(y:i6 x) :
  ∃b p' s',Un n (λj=>if j=i then f j+1 else f j) b p' s'/\b.length=K.length+1/\p_ (EF A K p s ⇑↥(i:Int) ⇑(sD x))=↑(.nx,EF A b p' s' ⇑↥(i:Int) ⇑(sD x)):=by
 obtain⟨hi,P,d,B⟩:=u;have q:=hi.at;have l5:=hi.l5;have sl:=q.len;have Q:=hi.n5;have kp:=hi.kp;obtain⟨V,I,U⟩:=x;obtain⟨R,S,e,g,k,m⟩:=y;have e:1<=I:=e;have g:I<=60:=g;have k:0<=U:=k;have m:U<=100:=m;obtain⟨t,g0⟩:∃t,s.1[i]?=↑t:=⟨_,aq ∅⟩;have gd:s.1.getD i []=t:=by rw[aw,g0];rfl
 have tl:t.length<=s.1.flatten.length:=(em (bn g0)).length_le;have hx:hI s.1 K.length ((i+1:Nat):Int) I U=none:=by
  unfold hI;rw[cb ∅,cb ∅,cb ∅,ax ∅,ax ∅]
 obtain⟨px,C⟩:=N6 (p:=p) hx l5 ∅;have sp:=EX (num:=ki K) (h:=I) (l:=U) (a:=i+1) (ss:=s.1) ∅ ∅ l5 (by rw[show i+1-1=i by lia,gd];lia);have E:=NH K;have F:i6 (ki K,I,U):=⟨E.1,by show ki K<=60;lia,e,g,k,m⟩;have Y:dC s.1 (i+1) (ki K,I,U)=s.1.set i ((ki K,I,U)::t):=by
  unfold dC;rw[show i+1-1=i by lia,gd]
 have G:SI n (K.length+1) (dC s.1 (i+1) (ki K,I,U),s.2):=by
  rw[Y];exact q.swap g0 (by rw[bf];lia) λx hx H=>by
   rcases cf.mp hx with rfl |hx
   ·exact F
   ·exact H x hx
 have st:uA K s (.put ((i+1:Nat):Int) I U) (dC s.1 (i+1) (ki K,I,U),s.2):=⟨hx,_,sp,rfl⟩;have o:=hi.push ∅ G st;have T:=NA (ss:=s.1) (a:=i+1) (x:=(ki K,I,U)) ∅;have Z:(K++[eG.put ((i+1:Nat):Int) I U]).length=K.length+1:=by rw[ak];rfl
 refine⟨_,_,_,⟨o,?_,?_,λj J=>?_⟩,Z,?_⟩
 ·rw[Z]
  show(dC s.1 (i+1) (ki K,I,U)).flatten.length=_
  lia
 ·unfold ki at d ⊢
  rw[im,show[eG.put ((i+1:Nat):Int) I U].filter eG.isPut=[eG.put ((i+1:Nat):Int) I U] from rfl];simp
  lia
 ·show((dC s.1 (i+1) (ki K,I,U)).getD j []).length=_
  have:=B j J;rw[Y,aw];by_cases c:j=i
  ·subst c
   rw[ax rfl,fj ∅,<-this,gd];rfl
  ·rw[cb c,dy (λz=>c z.symm),<-aw,this]
 ·have r:bc (aD iw (aB 2) [:1]) (bc (aH 3 [:1]) (bc (aH 3 [:2]) aC)) (EF A K p s ⇑↥(i:Int) ⇑(sD (V,I,U)))=↑([↥((i+1:Nat):Int),↥I,↥U],EF A K p s ⇑↥(i:Int) ⇑(sD (V,I,U))):=by
   have L:bJ [D.int V,↥I,↥U] 1=↑↥I:=rfl;have M:bJ [D.int V,↥I,↥U] 2=↑↥U:=rfl;unfold EF sD;generalize hP K (p++[s])=HP at *;simp only[bc,aC,aD,aB,fC,aH,cP,iw,L,M,af,ah,aj,ae];rfl
  have N:xK kH 1 (yg pL [1] (bc (aD iw (aB 2) [:1]) (bc (aH 3 [:1]) (bc (aH 3 [:2]) aC)))) (EF A K p s ⇑↥(i:Int) ⇑(sD (V,I,U)))=none:=by
   rw[Nl (ps:=hP K (p++[s])) (l:=none) rfl];exact N9 (ps:=hP K (p++[s])) (l:=none) (ds:=[↥((i+1:Nat):Int),↥I,↥U]) rfl r px
  have O:fK kH 1 (vk pK [1] (bc (aD iw (aB 2) [:1]) (bc (aH 3 [:1]) (bc (aH 3 [:2]) aC)))) (EF A K p s ⇑↥(i:Int) ⇑(sD (V,I,U)))=↑(.int (ki K),EF A (K++[.put ((i+1:Nat):Int) I U]) (p++[s]) (dC s.1 (i+1) (ki K,I,U),s.2) ⇑↥(i:Int) ⇑(sD (V,I,U))):=by
   rw[A3 (ps:=hP K (p++[s])) (l:=none) rfl];exact EQ (ps:=hP K (p++[s])) (l:=none) (ds:=[↥((i+1:Nat):Int),↥I,↥U]) rfl r C
  unfold p_;rw[show(AK.ins false "House" oa)=kH from rfl];simp only[cQ,j1,N,O,aj,ae]
theorem AT{v3:j0}(u:Un n f K p s)(U:i<n)(T:kf)(hT:∀x∈T,i6 x)(Z:K.length+T.length<=14) :
  ∃D p' s' v,Un n (λj=>if j=i then f j+T.length else f j) D p' s'/\D.length=K.length+T.length/\bW 3 p_ (T.map sD) (EF A K p s ⇑↥(i:Int) v3)=↑(.nx,EF A D p' s' ⇑↥(i:Int) v):=by
 obtain⟨e',h1,D,p',s',v,a,b,rfl⟩:=vp (i:=3) (g:=p_) sD (λq e=>∃D p' s' v,Un n (λj=>if j=i then f j+q.length else f j) D p' s'/\D.length=K.length+q.length/\e=EF A D p' s' ⇑↥(i:Int) v) T (EF A K p s ⇑↥(i:Int) v3) ⟨K,p,s,v3,⟨u.hi,u.fl,u.nx,λj V=>by rw[u.ln j V,ci,Nat.add_zero,ite_self]⟩,rfl,rfl⟩ (by
  rintro q x r e Y ⟨K1,p1,s1,v,u1,l1,rfl⟩;have c:=congrArg List.length Y;rw[ak,bf] at c;obtain⟨d,p2,s2,I,h,h2⟩:=AS (A:=A) u1 U ∅ (hT x (by rw[Y];simp));refine⟨_,h2,d,p2,s2,_,⟨I.hi,I.fl,I.nx,λj V=>?_⟩,by rw[ak,d5];lia,rfl⟩;rw[I.ln j V,ak,d5];split <;> lia)
 exact⟨D,p',s',v,a,b,h1⟩
theorem AU(b:ss.length<=5)(f:∀x∈ss.flatten,i6 x)(h:ss.flatten.length<=14) :
  ∃K p s v2 v3,HI ss.length K p s/\s.1.map List.length=ss.map List.length/\bW 2 uD (bL 0 ss.length) (EF (aF ss) [] [] (dG ss.length) none none)=↑(.nx,EF (aF ss) K p s v2 v3):=by
 obtain⟨e',h1,K,p,s,v2,v3,u,Z,rfl⟩:=uk (i:=2) (g:=uD) (λi e=>∃K p s v2 v3,Un ss.length (λj=>if j<i then(ss.getD j []).length else 0) K p s/\K.length=(ss.take i).flatten.length/\e=EF (aF ss) K p s v2 v3) (bL 0 ss.length) (EF (aF ss) [] [] (dG ss.length) none none)
  ⟨[],[],dG ss.length,none,none,⟨HI.new b,by simp[dG],rfl,λj U=>by simp[dG,U]⟩,rfl,rfl⟩ (by
  rintro i d e V ⟨K,p,s,v2,v3,u,Z,rfl⟩;obtain⟨rfl,hi⟩:=uj V;rw[i5];have Y:ss[i]?=↑ss[i]:=aq hi;have k:(ss.take (i+1)).flatten.length=(ss.take i).flatten.length+ss[i].length:=by
   rw[List.take_succ,Y,fm,ak];simp
  have l:(ss.take (i+1)).flatten.length<=ss.flatten.length:=by
   conv=>rhs;rw[<-pi (i+1) ss]
   rw[fm,ak]
   lia
  obtain⟨m,p',s',v,I,n,h2⟩:=AT (A:=aF ss) (v3:=v3) u hi ss[i].reverse (λx o=>f x (fy.mpr ⟨_,gk hi,vd.mp o⟩)) (by rw[jy];lia);rw[jy] at n;refine⟨_,?_,m,p',s',!↥(i:Int),v,⟨I.hi,I.fl,I.nx,λj U=>?_⟩,by lia,rfl⟩
  ·rw[<-h2]
   have q:bJ (ss.map λs=>D.lst (s.map sD)) (i:Int)=↑(.lst (ss[i].map sD)):=md (λs:kf=>D.lst (s.map sD)) Y;have r:mL [.lst (ss[i].map sD)]=↑(ss[i].reverse.map sD):=by unfold mL;rw[vf]
   unfold EF aF;generalize hP K (p++[s])=HP at *;generalize (ss.map λs=>D.lst (s.map sD))=SL at *;generalize ss[i].map sD=X1 at *;generalize ss[i].reverse.map sD=X2 at *;simp only[uD,bP,gq,bc,aC,aH,cP,aB,q,r,af,ah,ao,au,ae,aj]
  ·rw[I.ln j U,jy]
   by_cases c:j=i
   ·subst c
    rw[ax rfl,cb ∅,ax ∅,aw,Y];simp
   ·rw[cb c]
    by_cases a:j<i
    ·rw[ax a,ax ∅]
    ·rw[cb a,cb ∅])
 rw[u4] at u Z;refine⟨K,p,s,v2,v3,u.hi,?_,by rw[h1]⟩;have sl:=u.hi.at.len;apply eo;intro j;by_cases c:j<ss.length
 ·have:=u.ln j c
  rw[ax c,aw,aw] at this;rw[bj,bj];rw[aq ∅] at this ⊢;rw[aq c] at this ⊢;simpa using this
 ·rw[cq (by rw[ai];lia),cq (by rw[ai];lia)]
theorem F1(U:ss.length<=5)(V:∀x∈ss.flatten,i6 x)(I:ss.flatten.length<=14) :
  ∃K p s,HI ss.length K p s/\s.1.map List.length=ss.map List.length/\z7 [aF ss]=↑(hA K (p++[s])):=by
 obtain⟨K,p,s,v2,v3,hi,Y,h1⟩:=AU U V I;refine⟨K,p,s,hi,Y,?_⟩;have Z:=N8 (n:=ss.length) U (F:=bc (ir 0) aC) (e:=[!aF ss,none,none,none]) (e':=[!aF ss,none,none,none]) (by simp[aF,ir,bc,aC]);have a:=qh ss.length ∅;have b:(((ss.map λs=>D.lst (s.map sD)).length:Nat):Int)=(ss.length:Int):=by rw[ai]
 unfold z7 iE;rw[ax (show[aF ss].length=1 from rfl),show kr 4 [aF ss]=[!aF ss,none,none,none] from rfl];unfold AI;unfold EF at h1;rw[j2] at h1;unfold aF at *;show _=↑(kH,hP K (p++[s]));generalize hP K (p++[s])=HP at *;generalize hP [] [dG ss.length]=HP0 at *;generalize (ss.map λs=>D.lst (s.map sD))=SL at *;generalize bL 0 ss.length=RN at *;simp only[aE,rV,bP,rW,gq,bc,aC,ir,Z,a,b,h1,af,ah,ao,au,ae,aj]
def F3(a b:D)(I v3:j0):bc (aB 2) (bc (aB 1) aC) [I,!a,!b,v3]=↑([b,a],[I,!a,!b,v3]):=by
 simp[bc,aC]
variable{k:kv}
def Oe(I:s.1.length<=5)(h:cls s.1 os=↑c):bF [hA k (p++[s])] [.lst (os.map D.int)]=↑c:=by
 have U:=A4 (k:=k) (p:=p) (s:=s);have a:=gU (m:=wu) (F3 (.lst (os.map D.int)) (aF s.1) ↑(.ro kH (hP k (p++[s]))) none);rw[Fy I h] at a;unfold bF xQ;rw[ax ⟨rfl,rfl⟩,show my 4 [hA k (p++[s])] [.lst (os.map D.int)]=[↑(.ro kH (hP k (p++[s]))),!.lst (os.map D.int),none,none] from rfl];unfold aY;rw[show(AK.ins false "House" oa)=kH from rfl];generalize aF s.1=SS at *;generalize os.map D.int=OS at *;simp only[aE,aG,cQ,pQ,A5,EM,U,a,aC,ao,au,aj,ae]
theorem Of(hi:HI n k p s)(U:aW s.1 ns):bF [hA k (p++[s])] [.lst (iD ns)]=none/\∃l,bX [hA k (p++[s])] [.lst (iD ns)]=↑(.tup l):=by
 have V:=hi.at;have l5:=hi.l5;have Y:=V.few;obtain⟨ts,ok,I⟩:=s_ s.1 V.good Y;have Z:ns.length<=14:=by rw[U.len];exact Y
 obtain⟨u,a⟩:=Fx l5 V.good U Z;have w:=MF ok I V.good ∅ Y;obtain⟨x,g,b⟩:=Fz ok I U hi.stk;obtain⟨y,h,c⟩:=F0 ok I U hi.stk;have z:=A4 (k:=k) (p:=p) (s:=s);have f:=F3 (.lst (iD ns)) (aF s.1) ↑(.ro kH (hP k (p++[s])));have i:=gU (m:=wu) (f none);have j:=iJ (m:=nu) (f none);have o:=λv=>gU (m:=ya) (f v);have q:=λv=>iJ (m:=lG) (f v);have r:=λv=>gU (m:=xy) (f v);have t:=λv=>iJ (m:=nw) (f v);simp only[u,a,x,b,y,c,fx,aj] at i j o q r t;unfold bF bX xQ cB;rw[ax ⟨rfl,rfl⟩,ax ⟨rfl,rfl⟩,show my 4 [hA k (p++[s])] [.lst (iD ns)]=[↑(.ro kH (hP k (p++[s]))),!.lst (iD ns),none,none] from rfl];have d:aY [↑(.ro kH (hP k (p++[s]))),!.lst (iD ns),none,none]=↑(.rt (.tup [↥(oo 0 (tk s.1 ns)-oo 0 (tk s.1 (j6 ts))),.lst g,.lst h]),[↑(.ro kH (hP k (p++[s]))),!.lst (iD ns),!aF s.1,!↥(oo 0 (tk s.1 ns)-oo 0 (tk s.1 (j6 ts)))]):=by
  have e:([D.int (oo 0 (tk s.1 ns)-oo 0 (tk s.1 (j6 ts))),.lst g,.lst h]:i0).length<=64:=Nat.le_of_ble_eq_true rfl;unfold aY;rw[show(AK.ins false "House" oa)=kH from rfl];generalize oo 0 (tk s.1 ns)=c1 at *;generalize oo 0 (tk s.1 (j6 ts))=c2 at *;generalize aF s.1=SS at *;generalize iD ns=OS at *;simp only[aE,aG,cQ,uc,aM,aD,e9,bH,aB,bc,aC,pQ,A5,EM,z,w,i,j,o,q,r,t,bO,e,d6,ao,au,af,ah,fx,aj,ae]
 rw[d];exact⟨rfl,_,rfl⟩
def F4(d a b:D)(e:aQ):bc (aB 1) (bc (aB 2) aC) (⇑d::⇑a::⇑b::e)=↑([a,b],⇑d::⇑a::⇑b::e):=by
 simp[bc,aC]
def F5{A:Ag}{a b:D}(h:z7 [a]=↑A):mJ z7 (bc (aB 1) aC) [!d,!a,!b]=↑(A,[!d,!a,!b]):=by
 simp[mJ,bc,aC,h]
def Og(j:Nat)(e:j<5)(U:jH 14 ss)(h:cls ss os=↑c):zu [] [↥(j:Int),aF ss,.lst (os.map D.int)]=↑c:=by
 have I:=U.many;have f:=F4 ↥(j:Int) (aF ss) (.lst (os.map D.int)) [];have V:=gU (m:=wv) f;have Y:=gU (m:=wu) f;have Z:=gU (m:=ya) f;have a:=gU (m:=xy) f;simp only[Fw I h,Fy I h,Oc I h,Od I h,aj] at V Y Z a;obtain⟨K,p,s,hi,g,i⟩:=F1 I U.good U.tot;have l:=F5 (d:=.int (j:Int)) (b:=.lst (os.map D.int)) i;have n:=Oe (k:=K) (p:=p) (s:=s) hi.l5 ((Ft g os).trans h);unfold zu xQ;rw[ax ⟨rfl,rfl⟩,show my 3 [] [↥(j:Int),aF ss,.lst (os.map D.int)]=[!↥(j:Int),!aF ss,!.lst (os.map D.int)] from rfl];unfold uE;rw[show(AK.ins false "House" oa)=kH from rfl];generalize aF ss=SL at *;generalize os.map D.int=OS at *;generalize hP K (p++[s])=HP at *;match j,e with
 |0,_=>simp[cQ,V] at * |1,_=>simp[cQ,Y] at * |2,_=>simp[cQ,Z] at * |3,_=>simp[cQ,a] at * |4,_=>simp[cQ,oU,l,n] at *
theorem Oh(j:Nat)(v:j<5)(D:jH 14 ss)(I:aW ss ns):zu [] [↥(j:Int),aF ss,.lst (iD ns)]=none/\qq [] [↥(j:Int),aF ss,.lst (iD ns)]=↑(.bl true):=by
 have Z:=D.many;have U:ns.length<=14:=by rw[I.len];exact D.tot
 obtain⟨ts,ok,V⟩:=s_ ss D.good D.tot;obtain⟨w,x⟩:=Fv Z I U;obtain⟨p1,y⟩:=Fx Z D.good I U;obtain⟨p2,M,A⟩:=Fz ok V I D;obtain⟨B,N,C⟩:=F0 ok V I D;have f:=F4 ↥(j:Int) (aF ss) (.lst (iD ns)) [];have i:=gU (m:=wv) f;have k:=gU (m:=wu) f;have l:=gU (m:=ya) f;have o:=gU (m:=xy) f;have q:=iJ (m:=nt) f;have r:=iJ (m:=nu) f;have t:=iJ (m:=lG) f;have b3:=iJ (m:=nw) f;simp only[w,x,p1,y,p2,A,B,C,aj,fx] at i k l o q r t b3;have E:=zL (oo 0 (tk ss ns));obtain⟨K,p,s,hi,F,G⟩:=F1 Z D.good D.tot;have H:=F5 (d:=.int (j:Int)) (b:=.lst (iD ns)) G;have c:aW s.1 ns:=by
  have z:=(Ft F (ns.map λn:Nat=>(n:Int))).trans (Fu I);obtain⟨Y,J,L⟩:=Fs z;have:Y=ns:=by
   have u:iD ns=iD Y:=by
    rw[<-J];unfold iD;rw[dq];rfl
   unfold iD at u;exact(rl (λa b h=>by injection h with h;lia) |>.mp u).symm
  rw[<-this];exact L
 obtain⟨e,O,g⟩:=Of hi c;unfold zu qq xQ cB;rw[ax ⟨rfl,rfl⟩,ax ⟨rfl,rfl⟩,show my 3 [] [↥(j:Int),aF ss,.lst (iD ns)]=[!↥(j:Int),!aF ss,!.lst (iD ns)] from rfl];unfold uE;rw[show(AK.ins false "House" oa)=kH from rfl];generalize oo 0 (tk ss ns)=co at *;generalize aF ss=SL at *;generalize iD ns=OS at *;generalize hP K (p++[s])=HP at *;generalize (qb 0 (ns.zip (tk ss ns))).map iT=PL at *;match j,v with
 |0,_=>simp[cQ,i,q,h_,jS] at *
 |1,_=>simp[cQ,k,r,E] at * |2,_=>simp[cQ,l,t,h_,jS] at *
 |3,_=>simp[cQ,o,b3,h_,jS] at * |4,_=>simp[cQ,oU,sr,H,e,g,h_,jS] at *
noncomputable def fZ(ss:kl)(os:g8):i0:=match cls ss os with
 |none=>[.str "told",.bl true] |some c=>[.str "refused",.str ((xW c).getD "")]
def Oi(h:cls ss os=↑c):iW c=↑(.tup (fZ ss os)):=by
 unfold fZ;rw[h];unfold cls at h;split at h
 ·cases h;rfl
 ·split at h
  ·cases h;rfl
  ·split at h
   ·cases h;rfl
   ·cases h
def AV(d a b:D)(e:aQ):bc (aB 0) (bc (aB 1) (bc (aB 2) aC)) (⇑d::⇑a::⇑b::e)=↑([d,a,b],⇑d::⇑a::⇑b::e):=by
 simp[bc,aC]
def Oj(os:g8)(j:Nat)(V:j<5)(Y:jH 14 ss):AJ [↥(j:Int),aF ss,.lst (os.map D.int)]=↑(.tup (fZ ss os)):=by
 have f:=AV ↥(j:Int) (aF ss) (.lst (os.map D.int)) [!(.tup [.str "refused",.str ""]),none];have I:=gU (m:=zu) f;have U:=iJ (m:=qq) f;cases h:cls ss os with
 |some c =>
   rw[Og j V Y h] at I;have k1:=Oi h;refine kt (e':=[!↥(j:Int),!aF ss,!.lst (os.map D.int),!.tup (fZ ss os),none]) rfl ?_;show q9 [!↥(j:Int),!aF ss,!.lst (os.map D.int),none,none]=_;generalize aF ss=SL at *;generalize os.map D.int=OS at *;simp[q9,iV,cQ,uc,I,k1]
 |none =>
   obtain⟨ns,Z,a⟩:=Fs h;obtain⟨b,d⟩:=Oh j V Y a;rw[Z] at I U;rw[b] at I;rw[d] at U;rw[show fZ ss os=[.str "told",.bl true] by unfold fZ;rw[h]];refine kt (e':=[!↥(j:Int),!aF ss,!.lst (os.map D.int),!(.tup [.str "refused",.str ""]),none]) rfl ?_;show q9 [!↥(j:Int),!aF ss,!.lst (os.map D.int),none,none]=_;rw[Z];generalize aF ss=SL at *;generalize iD ns=OS at *;simp[q9,iV,cQ,uc,I,U]
theorem F6(O:D)(v3:j0):∀(os:g8) (v:j0),((∀a∈os,1<=a/\a<=(ss.length:Int))->∃Z,bW 2 yr (os.map D.int) [!aF ss,!O,v,v3]=↑(.nx,[!aF ss,!O,Z,v3])) /\
  ((∃a∈os,a<1\/(ss.length:Int)<a)->∃e',bW 2 yr (os.map D.int) [!aF ss,!O,v,v3]=↑(.rt (.tup [.str "refused",.str "unknown stack"]),e'))
 | [],v=>⟨λ_=>⟨v,rfl⟩,λ⟨a,h,_⟩=>by cases h⟩
 |a::os,v=>by
   have V:=F6 O v3 os ⇑↥a;have Y:(((ss.map λs=>D.lst (s.map sD)).length:Nat):Int)=(ss.length:Int):=by rw[ai]
   by_cases c:1<=a/\a<=(ss.length:Int)
   ·have I:decide (a<1)=false:=dw ∅
    have U:decide ((ss.length:Int)<a)=false:=dw ∅;have st:bW 2 yr ((a::os).map D.int) [!aF ss,!O,v,v3]=bW 2 yr (os.map D.int) [!aF ss,!O,!↥a,v3]:=by
     rw[bq,bW];unfold aF;generalize (ss.map λs=>D.lst (s.map sD))=L at *;simp only[yr,bZ,aU,gK,aJ,aD,aB,fC,ir,fB,dU,Y,af,ah,ae,aj,ao,au,I,U,du,ig]
    rw[st];exact⟨λh=>V.1 λb hb=>h b (ay _ hb),λ⟨b,hb,h⟩=>V.2 (by
     rcases cf.mp hb with rfl |hb
     ·lia
     ·exact⟨b,hb,h⟩)⟩
   ·refine⟨λh=>absurd (h a bi) c,λ_=>⟨[!aF ss,!O,!↥a,v3],?_⟩⟩
    rw[bq,bW];unfold aF;generalize (ss.map λs=>D.lst (s.map sD))=L at *;by_cases I:a<1
    ·simp[yr,I]
    ·have U:(ss.length:Int)<a:=by lia
     simp[yr,I,Y,U]
theorem F7(k:Nat):∀ns:g7,(ns.map λn:Nat=>(n:Int)).count ((k:Int)+1)=ns.count (k+1)
 | []=>rfl |a::ns=>by
   rw[bq,wx,wx,F7 k ns];congr 1;by_cases h:a=k+1
   ·rw[ax (by simp;lia),ax (by simp;lia)]
   ·rw[cb (by simp;lia),cb (by simp;lia)]
def Ol(ns:g7):cO (iD ns)=↑(ns.map λn:Nat=>(n:Int)):=by
 rw[<-vZ,dq];rfl
theorem F8(v2:j0)(ns:g7):∀(I:g7) (v:j0),(∀j∈I,j<ss.length)->((∀j∈I,0<=aN ss ns j)->∃d,bW 3 zw (I.map λj:Nat=>D.int (0+(j:Int))) [!aF ss,!.lst (iD ns),v2,v]=↑(.nx,[!aF ss,!.lst (iD ns),v2,d])) /\
  ((∃j∈I,aN ss ns j<0)->∃e',bW 3 zw (I.map λj:Nat=>D.int (0+(j:Int))) [!aF ss,!.lst (iD ns),v2,v]=↑(.rt (.tup [.str "refused",.str "empty stack"]),e'))
 | [],v,_=>⟨λ_=>⟨v,rfl⟩,λ⟨a,h,_⟩=>by cases h⟩
 |j::I,v,hj=>by
   have V:=F8 v2 ns I ⇑↥(j:Int) λi hi=>hj i (ay _ hi);have e:=hj j bi;have Y:ss[j]?=↑ss[j]:=aq e;have Z:bJ (ss.map λs=>D.lst (s.map sD)) (j:Int)=↑(.lst (ss[j].map sD)):=md (λs:kf=>D.lst (s.map sD)) Y;have g:aN ss ns j=(ss[j].length:Int)-(ns.count (j+1):Int):=by
    unfold aN;rw[aw,Y];rfl
   have ct:m4 (.lst (iD ns)) ↥((j:Int)+1)=↑↥(ns.count (j+1):Nat):=by
    show(cO (iD ns)).map _=_;rw[Ol,aj,F7]
   have c:hZ [.lst (ss[j].map sD)]=↑↥(ss[j].length:Int):=by simp
   rw[bq,bW,i5];by_cases f:0<=aN ss ns j
   ·have U:decide ((ss[j].length:Int)<((ns.count (j+1):Nat):Int))=false:=dw ∅
    have st:zw ([!aF ss,!.lst (iD ns),v2,v].set 3 ⇑↥(j:Int))=↑(.nx,[!aF ss,!.lst (iD ns),v2,!↥(j:Int)]):=by
     unfold aF;generalize (ss.map λs=>D.lst (s.map sD))=L at *;generalize ss[j].map sD=T at *;generalize iD ns=O at *;simp only[zw,bZ,aU,aJ,aD,aB,fC,e9,bc,aC,aH,cP,dU,iw,Z,ct,c,U,af,ah,ae,aj,ao,au,du,ig]
    rw[st];exact⟨λh=>V.1 λb hb=>h b (ay _ hb),λ⟨b,hb,h⟩=>V.2 (by
     rcases cf.mp hb with rfl |hb
     ·lia
     ·exact⟨b,hb,h⟩)⟩
   ·have U:decide ((ss[j].length:Int)<((ns.count (j+1):Nat):Int))=true:=il ∅
    refine⟨λh=>absurd (h j bi) f,λ_=>⟨[!aF ss,!.lst (iD ns),v2,!↥(j:Int)],?_⟩⟩;have st:zw ([!aF ss,!.lst (iD ns),v2,v].set 3 ⇑↥(j:Int))=↑(.rt (.tup [.str "refused",.str "empty stack"]),[!aF ss,!.lst (iD ns),v2,!↥(j:Int)]):=by
     unfold aF;generalize (ss.map λs=>D.lst (s.map sD))=L at *;generalize ss[j].map sD=T at *;generalize iD ns=O at *;simp only[zw,bZ,aM,bH,aJ,aD,aB,fC,e9,bc,aC,aH,cP,dU,iw,Z,ct,c,U,af,ah,ae,aj,ao,au,d6,bf,ci,show(0+1+1<=64)=True by simp]
    rw[st];rfl
theorem F9(f g:Nat->Int):∀n:Nat,((List.range n).map λj=>f j-g j).sum=((List.range n).map f).sum-((List.range n).map g).sum
 |0=>rfl |n+1=>by
   rw[gg,bh,bh,bh,gf,gf,gf,F9 f g n];simp
   lia
def FB(f:Nat->Nat):∀n:Nat,((List.range n).map λj=>((f j:Nat):Int)).sum=((((List.range n).map f).sum:Nat):Int)
 |0=>rfl |n+1=>by
   rw[gg,bh,bh,gf,gf,FB f n];simp
def Om(h:∀b∈ns,1<=b/\b<=ss.length):left ss ns=((List.range ss.length).map (aN ss [])).sum-(ns.length:Int):=by
 rw[<-pF ss.length ns h,<-FB,<-F9];unfold left;have:aN ss ns=λj=>aN ss [] j-(ns.count (j+1):Int):=by
  funext j;unfold aN;simp
 rw[this]
theorem On(p:ss.length<=5)(os:g8):AH [aF ss,.lst (os.map D.int)]=↑(.tup (fZ ss os)):=by
 have f:=F6 (ss:=ss) (.lst (os.map D.int)) none os none;have Y:=qh ss.length ∅;have Z:(((ss.map λs=>D.lst (s.map sD)).length:Nat):Int)=(ss.length:Int):=by rw[ai]
 unfold fZ cls;by_cases U:∃a∈os,a<1\/(ss.length:Int)<a
 ·rw[ax U]
  obtain⟨e',h1⟩:=f.2 U;refine kt (e':=e') rfl ?_;show xw [!aF ss,!.lst (os.map D.int),none,none]=_;generalize os.map D.int=OS at *;generalize aF ss=SL at *;simp only[xw,aE,bP,cX,aB,h1,af,ah,ae,aj];rfl
 ·rw[cb U]
  have g:=AQ U;obtain⟨b,h1⟩:=f.1 g;obtain⟨n,k2⟩:=AO g;have d:=F8 (ss:=ss) b (os.map Int.toNat) (List.range ss.length) none λj I=>ff.mp I;rw[show((List.range ss.length).map λj:Nat=>D.int (0+(j:Int)))=bL 0 ss.length from rfl] at d;have q:=Om k2;rw[n] at h1 ⊢;by_cases V:∃j,j<ss.length/\aN ss (os.map Int.toNat) j<0
  ·rw[ax V]
   obtain⟨j,I,e⟩:=V;obtain⟨e',h2⟩:=d.2 ⟨j,ff.mpr I,e⟩;refine kt (e':=e') rfl ?_;show xw [!aF ss,!.lst (iD (os.map Int.toNat)),none,none]=_;unfold aF at *;generalize iD (os.map Int.toNat)=OS at *;generalize (ss.map λs=>D.lst (s.map sD))=SL at *;generalize bL 0 ss.length=RN at *;simp only[xw,aE,bP,cX,aB,gq,bc,aC,ir,Z,Y,h1,h2,af,ah,ae,aj];rfl
  ·rw[cb V]
   obtain⟨h,h2⟩:=d.1 λj I=>by
    by_cases c:0<=aN ss (os.map Int.toNat) j
    ·exact c
    ·exact absurd ⟨j,ff.mp I,by lia⟩ V
   have i:=tF ss;have o:=tG ss.length (aN ss []);have k:cE (ss.map λs=>D.lst (s.map sD)).length:=few (by rw[ai];lia);have l:(((iD (os.map Int.toNat)).length:Nat):Int)=((os.map Int.toNat).length:Int):=by unfold iD;rw[ai]
   have bs:gF [.lst (aX ss.length (aN ss []))]=↑↥((List.range ss.length).map (aN ss [])).sum:=by
    show(cO _).map _=_;rw[o];rfl
   generalize ((List.range ss.length).map (aN ss [])).sum=TT at *;generalize aX ss.length (aN ss [])=CC at *;by_cases m:0<left ss (os.map Int.toNat)
   ·rw[ax m]
    have lt:decide (((os.map Int.toNat).length:Int)<TT)=true:=il ∅;refine kt (e':=[!aF ss,!.lst (iD (os.map Int.toNat)),b,h]) rfl ?_;show xw [!aF ss,!.lst (iD (os.map Int.toNat)),none,none]=_;unfold aF at *;generalize iD (os.map Int.toNat)=OS at *;generalize (ss.map λs=>D.lst (s.map sD))=SL at *;generalize bL 0 ss.length=RN at *;simp only[xw,aE,bP,bZ,aM,aJ,aD,e9,bH,fC,aL,j7,cX,aB,gq,bc,aC,ir,fB,Z,Y,h1,h2,k,i,bs,l,lt,af,ah,ae,aj,d6,di,bf,ci,show(0+1+1<=64)=True by simp];rfl
   ·rw[cb m]
    have lt:decide (((os.map Int.toNat).length:Int)<TT)=false:=dw ∅;refine kt (e':=[!aF ss,!.lst (iD (os.map Int.toNat)),b,h]) rfl ?_;show xw [!aF ss,!.lst (iD (os.map Int.toNat)),none,none]=_;unfold aF at *;generalize iD (os.map Int.toNat)=OS at *;generalize (ss.map λs=>D.lst (s.map sD))=SL at *;generalize bL 0 ss.length=RN at *;simp only[xw,aE,bP,bZ,aU,aM,aJ,aD,e9,bH,fC,aL,j7,cX,aB,gq,bc,aC,ir,fB,Z,Y,h1,h2,k,i,bs,l,lt,af,ah,ae,aj,du,ig,d6,di,bf,ci,show(0+1+1<=64)=True by simp]
variable{xs:g8}{q:Nat}{z:Int}
theorem FC{A B C v4 v5 v6:j0}(I:q<=xs.length)(U:xs.length<=1000):mu ↥(q:Int) ↥z [A,B,C,↑(.ow (xs.map D.int)),v4,v5,v6] 3=↑(.non,[A,B,C,↑(.ow ((xs.take q++z::xs.drop q).map D.int)),v4,v5,v6]):=by
 have h1:(0:Int)<=(q:Int)/\(q:Int)<=(((xs.map D.int).length:Nat):Int)/\cE ((xs.map D.int).length+1):=⟨by lia,by rw[ai];lia,few (by rw[ai];lia)⟩;simp only[mu,af,ah,ao,au,ax h1,ft];rw[bh,bq,List.map_take,List.map_drop]
theorem FD:(xs.take q++z::xs.drop q).length=xs.length+1:=by
 rw[ak,bf,fo,e8]
 lia
variable{cs:g8}
theorem AW{v5 v6:j0}{c:Int}{k:Nat}(r:cs[19+k]?=↑c)(E:xs.length<=400) :
  ∃(U:g8) (s t:j0),U.length<=2*xs.length+1/\ny [!A,!↥(n:Int),!.lst (cs.map D.int),↑(.ow (xs.map D.int)),!↥(k:Int),v5,v6]=↑(.nx,[!A,!↥(n:Int),!.lst (cs.map D.int),↑(.ow (U.map D.int)),!↥(k:Int),s,t]):=by
 have b:bJ (cs.map D.int) (19+(k:Int))=↑↥c:=by
  rw[show(19:Int)+(k:Int)=((19+k:Nat):Int) by lia];exact md D.int r
 have d:bV ↥c ↥9=↑↥(c / 9):=oF (by decide) (by decide);have e:aZ ↥c ↥9=↑↥(c % 9):=yn (by decide);obtain⟨q,eq,hq⟩:∃q:Nat,c / 9 % ((xs.length:Int)+1)=(q:Int)/\q<=xs.length:=by
  have h1:=ia (c / 9) (show(xs.length:Int)+1≠0 by lia);have h2:=gi (c / 9) (show(0:Int)<(xs.length:Int)+1 by lia);exact⟨(c / 9 % ((xs.length:Int)+1)).toNat,by lia,by lia⟩
 have f:aZ ↥(c / 9) ↥((xs.length:Int)+1)=↑↥(q:Int):=by rw[<-eq];exact yn ∅
 have g:(((xs.map D.int).length:Nat):Int)=(xs.length:Int):=by rw[ai]
 have i:iS ↥10 ↥12=↑↥1000000000000:=rfl;have u:fO ↥1=↑↥(-1):=rfl;have F:=ia c (show(9:Int)≠0 by decide);have G:=gi c (show(0:Int)<9 by decide);by_cases o:c % 9<4
 ·obtain⟨z,j⟩:∃z:Int,bJ [D.int 0,↥((n:Int)+1),↥(-1),↥1000000000000] (c % 9)=↑↥z:=by
   have:c % 9=0\/c % 9=1\/c % 9=2\/c % 9=3:=by lia
   rcases this with h |h |h |h <;> rw[h] <;> exact⟨_,rfl⟩
  have j:cV (.lst [D.int 0,↥((n:Int)+1),↥(-1),↥1000000000000]) ↥(c % 9)=↑↥z:=j;have l:=FC (A:=⇑A) (B:=⇑↥(n:Int)) (C:=⇑(.lst (cs.map D.int))) (v4:=⇑↥(k:Int)) (v5:=⇑↥c) (v6:=⇑↥(q:Int)) (z:=z) hq ∅;have Y:decide (c % 9<4)=true:=il o;refine⟨xs.take q++z::xs.drop q,!↥c,!↥(q:Int),?_,?_⟩;rotate_left
  ·generalize (xs.take q++z::xs.drop q).map D.int=X' at *
   generalize xs.map D.int=X at *;generalize cs.map D.int=CS at *;simp only[ny,aE,aG,bZ,j1,wm,aH,cP,aD,fC,aB,aJ,aL,ij,bc,aC,iN,ir,fB,iw,b,d,e,g,f,i,u,Y,j,l,d6,af,ah,ao,au,ae,aj,bf,ci,show(0+1+1+1+1<=64)=True by simp]
  ·rw[FD];lia
 ·have Y:decide (c % 9<4)=false:=dw o
  by_cases p:c % 9<6
  ·have m:decide (c % 9<6)=true:=il p
   have V:bV ↥c ↥135=↑↥(c / 135):=oF (by decide) (by decide);obtain⟨I,hmx,mp⟩:∃I:Int,iO [↥(n:Int),↥1]=↑↥I/\0<I:=by
    refine⟨if (1:Int) > (n:Int) then 1 else(n:Int),rfl,?_⟩;split <;> lia
   have mm:aZ ↥(c / 135) ↥I=↑↥(c / 135 % I):=yn mp;have l:=FC (A:=⇑A) (B:=⇑↥(n:Int)) (C:=⇑(.lst (cs.map D.int))) (v4:=⇑↥(k:Int)) (v5:=⇑↥c) (v6:=⇑↥(q:Int)) (z:=1+c / 135 % I) hq ∅;refine⟨xs.take q++(1+c / 135 % I)::xs.drop q,!↥c,!↥(q:Int),?_,?_⟩;rotate_left
   ·generalize (xs.take q++(1+c / 135 % I)::xs.drop q).map D.int=X' at *
    generalize xs.map D.int=X at *;generalize cs.map D.int=CS at *;simp only[ny,aE,aG,bZ,j1,wm,aH,cP,aD,fC,aB,aJ,e9,bc,aC,ir,fB,iw,b,d,e,g,f,Y,m,V,hmx,mm,l,d6,ig,du,af,ah,ao,au,ae,aj]
   ·rw[FD];lia
  ·have m:decide (c % 9<6)=false:=dw p
   obtain⟨Z,v,H⟩:=E_ xs none ↑(q:Int);obtain⟨a,w,J⟩:=E_ xs ↑((q:Int)+1) none;have x:cE ((Z.map D.int).length+(a.map D.int).length):=few (by rw[ai,ai];lia);have y:Z.map D.int++a.map D.int=(Z++a).map D.int:=bh.symm;refine⟨Z++a,!↥c,!↥(q:Int),by rw[ak];lia,?_⟩;rw[<-y];generalize xs.map D.int=X at *;generalize cs.map D.int=CS at *;simp only[ny,aE,aG,bZ,bM,aL,cW,gG,gP,gB,aH,cP,aD,fC,aB,aJ,ir,fB,iw,b,d,e,g,f,Y,m,v,w,x,d6,ig,du,af,ah,ao,au,ae,aj]
theorem Oo(a:ns.length<=14)(I:cs.length=22):∃xs:g8,xs.length<=200/\AG [.lst (iD ns),↥(n:Int),.lst (cs.map D.int)]=↑(.lst (xs.map D.int)):=by
 have U:bJ (cs.map D.int) 18=↑(.int cs[18]):=md (k:=18) D.int (by simp[I]);obtain⟨r,er,hr3⟩:∃r:Nat,cs[18] % 4=(r:Int)/\r<=3:=by
  have h1:=ia cs[18] (show(4:Int)≠0 by decide);have h2:=gi cs[18] (show(0:Int)<4 by decide);exact⟨(cs[18] % 4).toNat,by lia,by lia⟩
 have b:aZ (.int cs[18]) ↥4=↑↥(r:Int):=by rw[<-er];exact yn (by decide)
 have f:iD ns=(ns.map λn:Nat=>(n:Int)).map D.int:=by
  unfold iD;rw[dq];rfl
 rw[f];have h:(ns.map λn:Nat=>(n:Int)).length<=14:=by rw[ai];exact a
 generalize (ns.map λn:Nat=>(n:Int))=x0 at *;obtain⟨e',h1,xs,v4,v5,v6,Z,rfl⟩:=uk (i:=4) (g:=ny) (λk e=>∃(xs:g8) (v4 v5 v6:j0),xs.length+1<=15*2 ^ k/\e=[!.lst (x0.map D.int),!↥(n:Int),!.lst (cs.map D.int),↑(.ow (xs.map D.int)),v4,v5,v6]) (bL 0 r) [!.lst (x0.map D.int),!↥(n:Int),!.lst (cs.map D.int),↑(.ow (x0.map D.int)),none,none,none]
  ⟨x0,none,none,none,by lia,rfl⟩ (by
  rintro k d e V ⟨xs,v4,v5,v6,Z,rfl⟩;obtain⟨rfl,p⟩:=uj V;rw[i5];have p1:2 ^ k<=2 ^ 2:=qf (by decide) ∅;have p2:2 ^ (k+1)=2 ^ k*2:=Nat.pow_succ ..;rw[p2];generalize 2 ^ k=P at *;obtain⟨Y,j,l,m,h2⟩:=AW (A:=.lst (x0.map D.int)) (v5:=v5) (v6:=v6) (xs:=xs) (cs:=cs) (c:=cs[19+k]) (n:=n) (k:=k) (aq _) ∅;exact⟨_,h2,Y,!↥(k:Int),j,l,by lia,rfl⟩)
 rw[u4] at Z;have q:2 ^ r<=2 ^ 3:=qf (by decide) hr3;refine⟨xs,by generalize 2 ^ r=P at *;lia,?_⟩;have o:=qh r ∅;refine kt (e':=[!.lst (x0.map D.int),!↥(n:Int),!.lst (cs.map D.int),!.lst (xs.map D.int),v4,v5,v6]) rfl ?_;show AF [!.lst (x0.map D.int),!↥(n:Int),!.lst (cs.map D.int),none,none,none,none]=_;generalize x0.map D.int=X0 at *;generalize xs.map D.int=XS at *;generalize cs.map D.int=CS at *;simp only[AF,aE,bM,bP,aM,gq,tf,bc,aC,aB,aH,cP,aD,fC,U,b,o,h1,af,ah,ao,au,ae,aj]
def Op(os:g8):(fZ ss os).all oW=true:=by
 unfold fZ;split <;> rfl
theorem good(ns:g8)(v:ns.length<=63):Fm [.lst (ns.map D.int)]=↑(.bl true):=by
 obtain⟨cs,V,hd⟩:=L8 ns 22 ∅;obtain⟨ss,U,I⟩:=LO cs 14 ∅ ∅;rw[Mj] at I;have hd:oZ [.lst (ns.map D.int),↥22]=↑(.lst (cs.map D.int)):=hd;have I:sG [.lst (cs.map D.int),↥14]=↑(aF ss):=I;have b:=U.many;have c:∀s∈ss,s.length<=14:=λs h=>cy (em h).length_le U.tot;have f:=Mn ss ∅;have j:=Mp ss ∅ λs h=>cy (c s h) ∅;obtain⟨ts,ok,x⟩:=s_ ss U.good U.tot;have l:bJ (cs.map D.int) 16=↑(.int cs[16]):=md (k:=16) D.int (by simp[V]);have m:bJ (cs.map D.int) 17=↑(.int cs[17]):=md (k:=17) D.int (by simp[V]);have Y:bT (.int cs[16]) ↥2147483647=↑↥(cs[16]*2147483647):=rJ (qa (by decide));obtain⟨w,y,o⟩:=ME ok U.good ∅ U.tot ((cs[16]:Int)*(2147483647:Int)+(cs[17]:Int));obtain⟨xs,z,p⟩:=Oo (n:=ss.length) (ns:=w) (by rw[y.len];exact U.tot) V;have q:=On (ss:=ss) b xs;have r:=Mq xs ∅;have t:eV [↥5]=↑(bL 0 5):=qh 5 (by decide);have A:iY (.tup (fZ ss xs)) (.tup (fZ ss xs))=↑(.bl false):=by
  show(if fZ ss xs=fZ ss xs/\(fZ ss xs).all oW=true then ↑(D.bl false) else none)=_;rw[ax ⟨rfl,Op xs⟩]
 have B:(((ss.map λs=>D.lst (s.map sD)).length:Nat):Int)=(ss.length:Int):=by rw[ai]
 obtain⟨e',h1,v6,Z,a,rfl⟩:=uk (i:=6) (g:=AM) (λk e=>∃v6 Z a,e=[!.lst (ns.map D.int),!.lst (cs.map D.int),!aF ss,!.lst (iD w),!.lst (xs.map D.int),!.tup (fZ ss xs),v6,Z,a]) (bL 0 5)
  [!.lst (ns.map D.int),!.lst (cs.map D.int),!aF ss,!.lst (iD w),!.lst (xs.map D.int),!.tup (fZ ss xs),none,none,none] ⟨none,none,none,rfl⟩ (by
  rintro k d e u ⟨v6,Z,a,rfl⟩;obtain⟨rfl,C⟩:=uj u;rw[i5];have an:=Oj (ss:=ss) xs k C U;refine⟨[!.lst (ns.map D.int),!.lst (cs.map D.int),!aF ss,!.lst (iD w),!.lst (xs.map D.int),!.tup (fZ ss xs),!↥(k:Int),!aF ss,!.lst (xs.map D.int)],?_,_,_,_,rfl⟩;generalize fZ ss xs=DU at *;unfold aF at *;generalize (ss.map λs=>D.lst (s.map sD))=SL at *;generalize xs.map D.int=XS at *;generalize ns.map D.int=NS at *;generalize cs.map D.int=CS at *;generalize iD w=WD at *;simp only[AM,aE,aG,bZ,aU,aL,gq,tf,e9,bc,aC,aB,gK,dS,aJ,aD,f,j,r,an,A,af,ah,ao,au,ae,aj,Bool.not_true,du,ig])
 refine kt (e':=[!.lst (ns.map D.int),!.lst (cs.map D.int),!aF ss,!.lst (iD w),!.lst (xs.map D.int),!.tup (fZ ss xs),v6,Z,a]) rfl ?_;show AN [!.lst (ns.map D.int),none,none,none,none,none,none,none,none]=_;generalize fZ ss xs=DU at *;unfold aF at *;generalize (ss.map λs=>D.lst (s.map sD))=SL at *;generalize xs.map D.int=XS at *;generalize ns.map D.int=NS at *;generalize cs.map D.int=CS at *;generalize iD w=WD at *;generalize bL 0 5=R5 at *;simp only[AN,aE,aG,bP,aM,e9,gq,bc,aC,aB,fC,aD,aH,cP,ir,iw,hd,I,l,m,Y,o,B,p,q,t,h1,af,ah,ao,au,ae,aj]
end SQ
end
open PySem PySem.W PyProof.Rows
open L2 (us1 us2 us3 us4 us5)
theorem PySem.Challenge.cw_rotstacks_k06_order_refused_holds : PySem.Challenge.rw_rotstacks_k06_order_refused.Holds := by
 refine headO ?_
 k_fill
 refine L2.walkD (k:=11) (s:="_law_script") (l:=PySem.Challenge.rw_rotstacks_k06_order_refused) ⟨rfl,by decide,by decide⟩ rfl rfl (λw h Y=>PySem.W.kIn_of Y) ?F;case F =>
  intro w mg fa h KX G hmg;refine' L2.law_mk KX G hmg ?a ?l ?c ?k ?b (SQ.ok_all _ _ _ _ _ _ _ _ _ _ _ _ _ _ _ _ _ _ _ _ _ _ _ _ _ _ _ _ _ _ _ _ _ _ _ _ _ _ _ _ _ _ _ _ _ _ _ _ _ _ _ _ _ _ _ _ _ _ _ _ _ _ _ _ _ _ ?hhC _ _ _ _ _ _ _ _ _ _ _ _ _ _ _ _ _ _ _ _ _ _ _ _ _ _ _ _ _ _ _ _ _ _ _ _) SQ.good
  (case a=>k_is)
  (case l=>k_is)
  (case c=>k_is)
  (case k=>k_is)
  (case b=>exact λv=>rfl)
  (case hhC=>unfold L2.Cl;k_is)
  all_goals first | (refine' L2.def_mk (by assumption) (by assumption) ?a ?l ?c ?k ?b;(case a=>k_is);(case l=>k_is);(case c=>k_is);(case k=>k_is);(case b=>first |exact us1 λ_=>rfl |exact us2 λ_ _=>rfl |exact us3 λ_ _ _=>rfl |exact us4 λ_ _ _ _=>rfl |exact us5 λ_ _ _ _ _=>rfl)) | (refine' L2.mef_mk ?a ?l ?c ?k ?i ?b;(case a=>k_is);(case l=>k_is);(case c=>k_is);(case k=>k_is);(case i=>k_is);(case b=>first |exact us1 λ_=>rfl |exact us2 λ_ _=>rfl |exact us3 λ_ _ _=>rfl |exact us4 λ_ _ _ _=>rfl |exact us5 λ_ _ _ _ _=>rfl)) |exact⟨by k_is,by k_is,by k_is,by k_is⟩ |exact PySem.W.mg_none_of KX G (by k_is) |exact m7 KX G (by k_is) | (refine' L2.exc_mk KX G ?a ?b (by decide +kernel);(case a=>k_is);(case b=>k_exc)) | (refine' L2.con_mk KX G ?a;(case a=>k_is)) |exact L2.kf_mk KX G (by kernel_rfl) |k_is

