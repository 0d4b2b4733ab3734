import PyProof.Rows.All
import Wide.All
import OpenK.AllK
import Wide.FinOn
import Lean
import PyProof.EqAt
import PyProof.EqKinds
import PyProof.TupleCall
import PyProof.Draws
import PyProof.ZipIter
import PyProof.EnumMake
import PyProof.AttrMissHeap
import KE.KDictOf
import PyProof.Rows.SeqMore2
import PyProof.Rows.SortWalk
import KE.KRevIter
import KE.KTryMore
import PyProof.RulesAs
import PyProof.NsDelKeeps
import KE.KIsAll
import PyProof.ExcArgs
import PySem.Challenge.RW_rotstacks_k15_many_orders_refused
set_option Elab.async false
set_option linter.all false
set_option maxRecDepth 100000
set_option compiler.extract_closed false
set_option bootstrap.genMatcherCode false
local macro_rules | `(↑$t)=>`(some $t)
local macro_rules | `(⇑$t)=>`(some (.sh $t))
local macro_rules | `(↥$t)=>`(.int $t)
local macro_rules | `(⋯)=>`(by simp)
local macro_rules | `(∅)=>`(by lia)
theorem uR(h:True:=by rfl):True:=h
local macro_rules | `(‹$t›)=>`(autoParam $t uR._auto_1)
local macro_rules | `(command|@[simp] def $i:declId $s:optDeclSig $v:declVal)=>`(command|@[simp] noncomputable def $i:declId $s:optDeclSig $v:declVal)
local macro_rules | `(command|def $i:declId $s:optDeclSig $v:declVal)=>`(command|noncomputable def $i:declId $s:optDeclSig $v:declVal)
set_option maxHeartbeats 0
open Option renaming bind_some->ae,map_some->bi,map_none->jn
open List renaming length_map->af,mem_cons_of_mem->ai,length_cons->ak,getElem?_append_left->ao,getD_eq_getElem?_getD->aq,getElem?_eq_getElem->au,getElem?_cons_zero->aw,getElem?_cons_succ->ax,mem_cons_self->ay,length_append->bd,getElem?_map->bh,getElem?_append_right->bj,size_toArray->bp,mem_of_getElem?->br,mem_append_right->bu,lookup_cons->bw,map_cons->b4,getElem?_set_ne->b8,set_cons_zero->ce,set_cons_succ->cj,append_nil->cr,getElem?_set_self->cu,append_assoc->c8,map_append->db,length_set->de,getElem?_eq_none->dg,length_nil->di,cons_append->dm,map_nil->dq,length_take->d6,mem_append_left->ek,length_drop->eo,length_singleton->e7,sublist_flatten_of_mem->ff,length_range->fg,ext_getElem?->fj,sum_cons->f6,of_mem_zip->f9,not_mem_nil->gp,count_cons_self->gr,filterMap_cons->h9,map_map->ib,getElem?_concat_length->ie,zip_cons_cons->io,drop_eq_getElem_cons->iw,getElem?_set->iy,flatten_cons->iz,getElem_mem->jd,filter_cons->je,range_succ->jo,nil_append->jp,length_replicate->jv,length_flatten->kh,set_eq_take_append_cons_drop->kx,map_snd_zip->me,take_append_of_le_length->my,eq_nil_of_length_eq_zero->mz,getElem?_replicate->ur,filter_cons_of_pos->ut,filter_cons_of_neg->uu
open PySem.Heap renaming get?_push_of_some->aj,lt_size->bc,get?_update_other->bq,get?_push_size->b9,get?_update_self->dz,size_push->gv
open PySem renaming wpAny_bind->av,wpAny_pure->cq,mem_of_lookup->cz,sizeLine_eq->fb,wpAny_Call_Name_kw->fm,wpAny_mono->fz,wpAny_holding->gi,wpAny_field->gk,wpAny_passesOwn->iu,codeAny_mono->i5,wpAny_truthy_bool->jl,wpAny_newObj_type->jm,wpAny_call->ke,wpAny_execs_nil->kl,lookup_relabel_local->lg
open Nat renaming lt_of_lt_of_le->az,le_refl->bn,ne_of_lt->bo,le_trans->b5,lt_succ_self->dw,lt_irrefl->dy,lt_succ_of_lt->eg,zero_le->gh,le_of_not_lt->gn,ne_of_gt->ji,pow_le_pow_right->j3,le_succ->j4,lt_of_le_of_lt->kn,le_succ_of_le->lj,le_of_lt->lm,le_antisymm->nq
open Bool renaming false_ne_true->b7,false_eq_true->cw,and_eq_true->df,not_eq_true'->i3,eq_iff_iff->js,not_true->tj
open PySem.W renaming kia_one->cx,callWith_K->gc,mg_of->i6,cellsFrom_some->jh,plainGet_of->kg,kitx_list->li
open PySem.F renaming plainAttrs_list->gg,type_list_append->sy,slot_list_append->td
open Int renaming zero_add->ig,toNat_natCast->i0,mul_add->j5,mul_le_mul_of_nonneg_right->mf,add_assoc->tf
def ah:=@List.getElem?_eq_some_iff
def am:=@if_pos
def bz:=@List.mem_cons
def b0:=@Option.bind_eq_some_iff
def b3:=@if_neg
def b6:=@List.mem_singleton
def cb:=@List.nodup_cons
def cg:=@Option.map_eq_some_iff
def c9:=@decide_eq_false
def dh:=@List.mem_append
def dn:=@List.mem_map
def d7:=@if_true
def fo:=@if_false
def fq:=@List.mem_range
def ft:=@List.all_eq_true
def gf:=@List.sum_eq_zero_iff_forall_eq_nat
def gj:=@List.filter_eq_nil_iff
def gq:=@List.mem_flatten
def gz:=@List.map_eq_nil_iff
def im:=@beq_iff_eq
def ip:=@Array.getElem?_eq_some_iff
def i7:=@Option.isSome_iff_exists
def jc:=@beq_self_eq_true
def jq:=@List.mem_filter
def j2:=@decide_eq_true
def ko:=@List.mem_filterMap
def lh:=@decide_eq_true_eq
def pk:=@PySem.F.excBase_ValueError
abbrev d3:=List PySem.Str
abbrev d5:=List PySem.Value
abbrev eb:=Option PySem.Value
abbrev ed:=List PySem.Addr
abbrev ee:=List Nat
abbrev ei:=List Int
abbrev ep:=List PySem.Env
abbrev er:=List PySem.Expr
abbrev et:=Option PySem.Str
abbrev ew:=Option Int
abbrev e5:=PySem.W.Frag
abbrev e9:=List (PySem.Addr×PySem.Obj)
abbrev fc:=Array PySem.Value
def bg:=@Option.some.inj
def fu:=@Array.length_toList
def ia:=@PyProof.Rows.callWith_type1
local macro_rules | `(command|example:=[$n:num,*])=>return Lean.mkNullNode (←n.getElems.mapM λx=>`(command|def $(Lean.mkIdent (.mkSimple s!"tw{x.getNat}")):ident:=0))
namespace PySem.W.Fast
example:=[8763362985707160605,13184622150755146257,14652175557475932392,3301900299095288138,7803279730508470376,5721976631286687531,16443253333803420104,6358926300675400664,2360446847297263352,16835067656529873813,6437409011987156881,9422659020070781776,11426443043654593942,283888789339259811,14620615850239007432,11105427925141876665,11281214088086372846,12264938177008825913,17438053562242403248,3862604726559430148,8221379785114272625,1608420323584266568,1030786325826500318,13774891425750927617,14594615223095892107,11259471920729424210,11037459416748586804,857434056779319320,267220488418714694,14575849073566305153,3599352512664547791,9407546540072142627,551146279509103311,9230557904193097252,15932470062807352559,17964398779287212389,3293404830325504663,10121377862272130278,12271837024212840064,2455845457240328603,4784713301898198216,1046043715639932325,5106441590265517144,8672185609985027439,10743280145993326340,10803328884763503692,12643047492036967414,7789411100190315816,1384468984564685357,3940656549514326351,3945582593327187780,2991398781726216151,8983939867327204640,18338382014214175078,6239945339599895091,11449094460266757391,7039665383254990329,7753557234431668989,7691141007765276501,17388220926716677784,8567998345255177908,7101557838441739412,1698672509037629243,9509332782846596327,15178129359280702113,18128463025980351373,13026136331304254567,713925798845973743,17806559798037380195,3197127712834208283,3364652684642082450,15075812800323745547,8287477372257394460,9386486049590100709,1592825966979909660,773837769077973527,6957635899108190166,12151471792044683060,8168842266489454260,5695818420071679229,13668964046865673808,7494534464192885038,16066682314372120516,2902711153862116940,17850976101320007240,12459525456415076225,10299508411813066587,15152272479559362860,13464293334361598402,956844536867546939,8046396776376872931,511964816478924817,16594903875386919150,14777694549974150516,10971501718340150528,12945191590096364912,303393188462876981,10059333434424283850,13993314514963861476,12312703437650036083,6225451384088411900,4872185083630023082,7027161504191823226,14314331636810974966,4432724790468297698,6304074034095042606,10061068533373863766,5051928251995058599,15410795213886004188,2653100503704486927,7083750166878692056,15578151201288151338,3018418718631485023,13565428580133954243,16913001617521123322,17359947078208382141,10914920531300362772,4895425382642465790,9331646050020945210,9696894445133737400,9234954786079030011,58109462115370533,12820195605933434369,6711401018035597595,16534366105450581242,14587566150563357338,18380758025991626041,5319112565099122083,13720367999651837026,10266929081619643570,8507352256790140945,12054639723486977669,8890728187195941351,5034167268257356676,17161356176684404978,17170464661424221417,2224808020388061643,11786329855717380806,6238872936281458715,11344129987273314008,754789977371548613,17081379799441678081,18318806193201337395,15801375300011771290,14692834975264664293,15469945006531455178,11344943184745296118,5467222893395880145,10426878818318752167,12225655876219862416,4348695930679769728,2702439272556505636,10472215586378509919,11334331014071413509,3779230181079493466,23336477830775565,4889039987935711080,3444587822831460601,10524798556991181576,15594794917597159775,894731538882559133,16888146075410284241,4009816804984322137,7614239969179653809,4721184679926851813,10587343237000749088,13617027138147984029,951539657040619174,4052543639505978254,6696285059151635606,5398993404786027997,10990553094901904019,9023141816375520198,12187120691550891565,3629635586054587791,2620867373401844138,8258753407474024693,11114441641902549053,13341254790193404362,15214239597741854453,14273246844933024690]
end PySem.W.Fast
open_top headO for PySem.Challenge.rw_rotstacks_k15_many_orders_refused
noncomputable section
namespace L2
open PySem PySem.Spec PyProof.Rows
abbrev eJ:=Sum Int Str
def oV:eJ->Value->Bool
 | .inl k,v=>Value.isInt k v | .inr x,v=>Value.isStrOf x v
def la(w:World):eJ->Int
 | .inl k=>hashInt k | .inr x=>hashStr w x
def o4:∀ {k:eJ} {v:Value},oV k v=true->(∃i t,k=Sum.inl i/\v=Value.int i t)\/(∃x t,k=Sum.inr x/\v=Value.str x t)
 | .inl i,v,h=>by
   obtain⟨t,e⟩:=Value.isInt_shape (k:=i) (v:=v) h;exact .inl ⟨i,t,rfl,e⟩
 | .inr x,v,h=>by
   obtain⟨t,e⟩:=Value.isStrOf_shape (x:=x) (v:=v) h;exact .inr ⟨x,t,rfl,e⟩
def uS(a b:Int):decide ((Sum.inl a:eJ)=Sum.inl b)=(a==b):=by
 by_cases e:a=b
 ·subst e;simp
 ·have h:¬(Sum.inl a:eJ)=Sum.inl b:=λq=>e (Sum.inl.inj q)
  rw[c9 h];exact(beq_eq_false_iff_ne.mpr e).symm
def uT(a b:Str):decide ((Sum.inr a:eJ)=Sum.inr b)=decide (a=b):=by
 by_cases e:a=b
 ·subst e;simp
 ·have h:¬(Sum.inr a:eJ)=Sum.inr b:=λq=>e (Sum.inr.inj q)
  rw[c9 h,c9 e]
def uU(a:Int)(b:Str):decide ((Sum.inl a:eJ)=Sum.inr b)=false:=c9 (λq=>nomatch q)
def uV(a:Str)(b:Int):decide ((Sum.inr a:eJ)=Sum.inl b)=false:=c9 (λq=>nomatch q)
def oW(prog:Program)(w:World):PySem.KeyKind prog w eJ where
 is:=oV
 hash:=la w
 inj:=λv a b S I=>by
  rcases o4 S with⟨i,t,rfl,rfl⟩ | ⟨x,t,rfl,rfl⟩
  ·rcases o4 I with⟨j,u,rfl,e⟩ | ⟨y,u,rfl,e⟩
   ·injection e with e1 _;rw[e1]
   ·exact nomatch e
  ·rcases o4 I with⟨j,u,rfl,e⟩ | ⟨y,u,rfl,e⟩
   ·exact nomatch e
   ·injection e with e1 _;rw[e1]
 byValue:=λk v h=>by
  rcases o4 h with⟨i,t,rfl,rfl⟩ | ⟨x,t,rfl,rfl⟩ <;> rfl
 pyHash:=λD h=>by
  rcases o4 D with⟨i,t,rfl,rfl⟩ | ⟨x,t,rfl,rfl⟩
  ·exact wpAny_pyHash_int h
  ·exact wpAny_pyHash_str h
 eqBool:=λU D h=>by
  rcases o4 U with⟨i,t,rfl,rfl⟩ | ⟨x,t,rfl,rfl⟩
  ·rcases o4 D with⟨j,u,rfl,rfl⟩ | ⟨y,u,rfl,rfl⟩
   ·rw[uS] at h;exact wpAny_eqBool_int h
   ·rw[uU] at h;exact SeqAt.EqAt.int_str i t y u _ _ _ _ h
  ·rcases o4 D with⟨j,u,rfl,rfl⟩ | ⟨y,u,rfl,rfl⟩
   ·rw[uV] at h;exact SeqAt.EqAt.str_int x t j u _ _ _ _ h
   ·rw[uT] at h;exact wpAny_eqBool_str h
 «strs»:=λk x t v h=>by
  rcases o4 h with⟨i,u,rfl,e⟩ | ⟨y,u,rfl,e⟩
  ·exact nomatch e
  ·injection e with e1 _
   subst e1;cases v <;> rfl
inductive V where
 |non |bl (b:Bool) |int (i:Int) |str (x:Str) |byt (b:Array UInt8) |flt (b:UInt64) |ref (a:Addr) |ty (n:String)
 deriving DecidableEq
abbrev fe:=List V
def RelV:V->Value->Prop
 | .non,u=>u=Value.none | .bl b,u=>u=Value.bool b | .int i,u=>∃t,u=Value.int i t
 | .str x,u=>∃t,u=Value.str x t | .byt b,u=>∃t,u=Value.bytes b t | .flt b,u=>∃t,u=Value.float b t | .ref a,u=>u=Value.ref a | .ty n,u=>u=Value.type n
abbrev aL:fe->d5->Prop:=Paired RelV
def aL.length{xs:fe}{us:d5}(r:aL xs us):xs.length=us.length:=Paired.length r
def aL.get:∀ {xs:fe} {us:d5} {i:Nat} {x:V},aL xs us->xs[i]?=↑x->∃u,us[i]?=↑u/\RelV x u
 |_,_,_,_,.nil,e=>by simp at e |_,_,0,_,.cons r _,e=>by simp at e;subst e;exact⟨_,rfl,r⟩ |_,_,i+1,x,.cons _ t,e=>by
   obtain⟨u,h1,h2⟩:=aL.get (i:=i) (x:=x) t (by simpa using e);exact⟨u,by simpa using h1,h2⟩
def aL.set{x:V}{u:Value}(r:RelV x u):∀ {xs:fe} {us:d5} (i:Nat),aL xs us->aL (xs.set i x) (us.set i u)
 |_,_,_,.nil=>.nil |_,_,0,.cons _ t=>.cons r t |_,_,i+1,.cons q t=>.cons q (aL.set r i t)
variable{xs ys:fe}{us:d5}
def aL.append{ws:d5}(h:aL xs us)(s:aL ys ws):aL (xs++ys) (us++ws):=by
 induction h with
 |nil=>exact s |cons r _ q=>exact .cons r q
def aL.take:∀ {xs:fe} {us:d5} (n:Nat),aL xs us->aL (xs.take n) (us.take n)
 |_,_,0,_=>.nil |_,_,_+1,.nil=>.nil |_,_,n+1,.cons r t=>.cons r (aL.take n t)
def aL.drop:∀ {xs:fe} {us:d5} (n:Nat),aL xs us->aL (xs.drop n) (us.drop n)
 |_,_,0,r=>r |_,_,_+1,.nil=>.nil |_,_,n+1,.cons _ t=>aL.drop n t
def dP:Option V->eb->Prop
 |some v,↑u=>RelV v u |none,none=>True |_,_=>False
def KV{κ:Type}:List (κ×V)->List (κ×Value)->Prop:=Paired λ(p:κ×V) (q:κ×Value)=>p.1=q.1/\RelV p.2 q.2
def kV:eJ->V
 | .inl i=>.int i
 | .inr x=>.str x
inductive HO where
 |lst (xs:fe)
 |tup (xs:fe)
 |dK (kvs:List (eJ×V)) |dT (kvs:List (List eJ×V))
 |set (S:Int->Bool) (n:Nat)
 |ins (C dx:Addr) (fs:List (Str×V))
 |own (x:Addr)
 |xd (fs:List (Str×V))
 |met (f x:Addr)
 |rng (lo hi:Int)
 |frz (o:Obj) (u:HO)
 |tbl (ps:fc)
 |ext (φ:Heap->Prop)
abbrev Hp:=Addr->Option HO
def aR(H:Hp)(a:Addr)(o:HO):Hp:=λb=>if b=a then ↑o else H b
variable{H:Hp}{a:Addr}{o:HO}
def j9:aR H a o a=↑o:=by unfold aR;rw[am rfl]
variable{b:Addr}
def e8(h:b≠a):aR H a o b=H b:=by unfold aR;rw[b3 h]
def kt(h:H a=↑o)(h':H b=none):a≠b:=by
 intro e;subst e;rw[h] at h';cases h'
section
variable (P:Program) (w:World)
def bC(H:Hp)(h:Heap)(a:Addr):HO->Prop
 | .lst xs=>xs.length<=sizeLine/\∃(its:d5) (n:Nat),aL xs its/\h.get? a=some { cls:=.type "list",data:=.seq its.toArray n } | .tup xs=>xs.length<=sizeLine/\∃its:d5,aL xs its/\IsTup h a its.toArray | .dK kvs=>kvs.length<=sizeLine/\(a==sysModules)=false/\∃vs,KV kvs vs/\h.DictOf (oW P w) a vs | .dT kvs=>kvs.length<=sizeLine/\(a==sysModules)=false/\∃xs:List (List eJ×Addr×Value),
    Paired (λ(p:List eJ×V) (q:List eJ×Addr×Value)=>p.1=q.1/\H q.2.1=↑(.tup (p.1.map kV))/\RelV p.2 q.2.2) kvs xs /\
    ∃o es D,h.get? a=↑o/\o.ExactDict/\o.data=.dict es D/\es.toList=xs.map (entryOfKey (tupleKind (oW P w)))/\(xs.map (·.1)).Nodup
 | .set S n=>h.SetOf (intKind P w) a S n | .ins C dx fs=>H dx=↑(.own a)/\fs.length<=1000/\dx≠a/\h.get? a=↑(PySem.W.instObj C dx) /\
    ∃mA,h.Ns1 dx mA/\(∀f,dP (fs.lookup f) (mA f))/\PySem.Within mA (fs.map (·.1))
 | .own _=>∃o,h.get? a=↑o | .xd fs=>∃mA,h.Ns1 a mA/\∀f,dP (fs.lookup f) (mA f) | .rng lo hi=>∃t u v,h.get? a=some { cls:=.type "range",data:=.fields #[.int lo t,.int hi u,.int 1 v] } | .frz o u=>h.get? a=↑o/\bC H h a u | .tbl ps=>h.get? a=some { cls:=.none,data:=.fields ps } | .met f x=>h.get? a=↑(PySem.W.methodObj (.ref f) (.ref x)) | .ext φ=>φ h/\(∃o,h.get? a=↑o)/\∀h1 h2:Heap,φ h1->(∀o,h1.get? a=↑o->h2.get? a=↑o)->φ h2
def dL(H:Hp)(h:Heap):Prop:=∀a o,H a=↑o->bC P w H h a o
end
variable{P:Program}{w:World}{h:Heap}
def bC.lt(x:bC P w H h a o):a<h.objs.size:=by
 cases o with
 |lst xs=>obtain⟨_,_,_,_,e⟩:=x;exact bc e |tup xs=>obtain⟨_,_,_,p⟩:=x;exact p.lt |dK kvs=>obtain⟨_,_,_,_,o,_,_,e,_⟩:=x;exact bc e |dT kvs=>obtain⟨_,_,_,_,o,_,_,e,_⟩:=x;exact bc e |set S n=>obtain⟨o,_,_,_,e,_⟩:=x;exact bc e |ins C dx fs=>obtain⟨_,_,_,e,_⟩:=x;exact bc e |own y=>obtain⟨_,e⟩:=x;exact bc e |xd fs=>obtain⟨_,⟨_,_,_,e,_⟩,_⟩:=x;exact bc e |rng lo hi=>obtain⟨_,_,_,e⟩:=x;exact bc e |frz ob u=>obtain⟨e,_⟩:=x;exact bc e |tbl ps=>exact bc (show h.get? a=↑_ from x) |met f y=>exact bc (show h.get? a=↑_ from x) |ext φ=>obtain⟨_,⟨_,e⟩,_⟩:=x;exact bc e
variable{α:Type}
def Paired.mapP{β:Type}{F G:α->β->Prop}{D:List α}{I:List β}(h:Paired F D I)(f:∀a b,F a b->G a b):Paired G D I:=by
 induction h with
 |nil=>exact .nil |cons r _ q=>exact .cons (f _ _ r) q
variable{H':Hp}{h':Heap}
def bC.stay(x:bC P w H h a o)(k:∀b u,(b=a\/H b=↑(.own a))->h.get? b=↑u->h'.get? b=↑u)(U:∀b,H b=↑(.own a)->H' b=↑(.own a))(V:∀b xs,H b=↑(.tup xs)->H' b=↑(.tup xs)):bC P w H' h' a o:=by
 induction o with
 |lst xs=>obtain⟨z,its,n,r,e⟩:=x;exact⟨z,its,n,r,k _ _ (.inl rfl) e⟩ |tup xs=>obtain⟨z,its,r,D,e,c⟩:=x;exact⟨z,its,r,D,k _ _ (.inl rfl) e,c⟩ |dK kvs=>obtain⟨z,y,vs,r,D,es,I,e,c⟩:=x;exact⟨z,y,vs,r,D,es,I,k _ _ (.inl rfl) e,c⟩ |dT kvs =>
   obtain⟨z,y,xs,r,D,es,I,e,c⟩:=x;exact⟨z,y,xs,Paired.mapP r λp q z=>⟨z.1,V _ _ z.2.1,z.2.2⟩,D,es,I,k _ _ (.inl rfl) e,c⟩
 |set S n=>obtain⟨D,es,I,t,e,c⟩:=x;exact⟨D,es,I,t,k _ _ (.inl rfl) e,c⟩ |ins C dx fs =>
   obtain⟨d,z,Y,e,mA,⟨od,es,I,g,c⟩,r⟩:=x;exact⟨U _ d,z,Y,k _ _ (.inl rfl) e,mA,⟨od,es,I,k _ _ (.inr d) g,c⟩,r⟩
 |own y=>obtain⟨D,e⟩:=x;exact⟨D,k _ _ (.inl rfl) e⟩ |xd fs=>obtain⟨mA,⟨od,es,I,e,c⟩,r⟩:=x;exact⟨mA,⟨od,es,I,k _ _ (.inl rfl) e,c⟩,r⟩ |rng lo hi=>obtain⟨t,u,v,e⟩:=x;exact⟨t,u,v,k _ _ (.inl rfl) e⟩ |frz D u ih=>obtain⟨e,q⟩:=x;exact⟨k _ _ (.inl rfl) e,ih q⟩ |tbl ps =>
   have e:h.get? a=some { cls:=.none,data:=.fields ps }:=x;show h'.get? a=some { cls:=.none,data:=.fields ps };exact k a _ (.inl rfl) e
 |met f y =>
   have e:h.get? a=↑(PySem.W.methodObj (.ref f) (.ref y)):=x;show h'.get? a=↑(PySem.W.methodObj (.ref f) (.ref y));exact k a _ (.inl rfl) e
 |ext φ=>obtain⟨p,⟨o,e⟩,st⟩:=x;exact⟨st _ _ p λo q=>k _ _ (.inl rfl) q,⟨o,k _ _ (.inl rfl) e⟩,st⟩
def dL.lt(x:dL P w H h)(e:H a=↑o):a<h.objs.size:=(x a o e).lt
def dL.fresh(x:dL P w H h)(e:h.objs.size<=a):H a=none:=by
 cases q:H a with
 |none=>rfl |some u=>exact absurd (az (x.lt q) e) (dy _)
def dL.kept(x:dL P w H h)(k:∀b u,h.get? b=↑u->h'.get? b=↑u):dL P w H h':=λa o e =>
 (x a o e).stay (λb u _ q=>k b u q) (λ_ q=>q) λ_ _ q=>q
def dL.laid(x:dL P w H h)(k:∀b u,h.get? b=↑u->h'.get? b=↑u)(S:h.objs.size<=a)(new:bC P w (aR H a o) h' a o):dL P w (aR H a o) h':=λb u e=>by
 have D:=x.fresh S;by_cases I:b=a
 ·subst I;rw[j9] at e;cases e;exact new
 ·rw[e8 I] at e
  exact(x b u e).stay (λc v _ q=>k c v q) (λc q=>by rw[e8 (kt q D)];exact q) λc xs q=>by rw[e8 (kt q D)];exact q
def Rd(H:Hp)(a:Addr)(u:HO):Prop:=H a=↑u\/∃o,H a=↑(.frz o u)
variable{u:Value}
def Rd.ok{u:HO}(r:Rd H a u)(x:dL P w H h):bC P w H h a u:=by
 rcases r with r | ⟨o,r⟩
 ·exact x a u r
 ·obtain⟨_,q⟩:=x a _ r
  exact q
def kK:Option HO->Prop
 |some (.lst _)=>True |some (.dK _)=>True |some (.dT _)=>True |some (.set _ _)=>True |some (.ins _ _ _)=>True |some (.ext _)=>True |_=>False
variable{x e:Addr}{o':HO}
def dL.write(ok:dL P w H h)(U:kK (H x))(a:e=x\/H e=↑(.own x))(k:∀b u,b≠e->h.get? b=↑u->h'.get? b=↑u)(Y:∃u,h'.get? e=↑u)(new:bC P w (aR H x o') h' x o'):dL P w (aR H x o') h':=λb u q=>by
 have I:∀c y,H c=↑(.own y)->c≠x:=λc y r z=>by subst z;rw[r] at U;exact U
 have S:∀c xs,H c=↑(.tup xs)->c≠x:=λc xs r z=>by subst z;rw[r] at U;exact U
 by_cases V:b=x
 ·subst V;rw[j9] at q;cases q;exact new
 ·rw[e8 V] at q
  by_cases D:b=e
  ·have d:H b=↑(.own x):=by
    rcases a with z |z
    ·exact absurd (D.trans z) V
    ·rw[D];exact z
   rw[q] at d;cases d;obtain⟨v,f⟩:=Y;exact⟨v,by rw[D];exact f⟩
  ·refine(ok b u q).stay (λc v hc r=>k c v ?_ r) (λc r=>by rw[e8 (I c b r)];exact r) λc xs r=>by rw[e8 (S c xs r)];exact r
   rcases hc with rfl |hc
   ·exact D
   ·rintro rfl
    rcases a with z |z
    ·exact I c b hc z
    ·rw[hc] at z;cases z;exact V rfl
structure Un (fs ex:ed) (H H':Hp) (h h':Heap):Prop where
 keep:∀b o,h.get? b=↑o->H b=none->b∉fs->b∉ex->h'.get? b=↑o
 slot:∀b o,h.get? b=↑o->H b=none->b∈fs->b∉ex->∃sl,h'.get? b=some { o with slots:=sl }
 free:∀b o,h.get? b=↑o->H b=none->b∉ex->H' b=none
 there:∀b o,h.get? b=↑o->b∉ex->∃o',h'.get? b=↑o'
 tups:∀b xs,H b=↑(.tup xs)->H' b=↑(.tup xs)
 frzs:∀b o u,H b=↑(.frz o u)->H' b=↑(.frz o u)
 tbls:∀b ps,H b=↑(.tbl ps)->∃more,H' b=↑(.tbl (ps++more))
variable{fs ex:ed}{H1:Hp}{h1:Heap}
def Un.any(u:Un fs ex H H1 h h1){D:Obj}(q:h.get? b=↑D)(n:H b=none)(I:b∉ex):∃sl,h1.get? b=some { D with slots:=sl }:=by
 by_cases S:b∈fs
 ·exact u.slot b D q n S I
 ·exact⟨D.slots,u.keep b D q n S I⟩
variable{H2:Hp}{h2:Heap}
def Un.trans(a:Un fs ex H H1 h h1)(b:Un fs ex H1 H2 h1 h2):Un fs ex H H2 h h2 where
 keep:=λc D q n U I=>b.keep c D (a.keep c D q n U I) (a.free c D q n I) U I
 slot:=λc D q n U I=>by
  obtain⟨sl,S⟩:=a.slot c D q n U I;obtain⟨V,Y⟩:=b.slot c _ S (a.free c D q n I) U I;exact⟨V,Y⟩
 free:=λc D q n I=>by
  obtain⟨o',S⟩:=a.there c D q I;exact b.free c o' S (a.free c D q n I) I
 there:=λc D q I=>by
  obtain⟨o',S⟩:=a.there c D q I;exact b.there c o' S I
 tups:=λc xs q=>b.tups c xs (a.tups c xs q)
 frzs:=λc D xs q=>b.frzs c D xs (a.frzs c D xs q)
 tbls:=λc ps q=>by
  obtain⟨d,S⟩:=a.tbls c ps q;obtain⟨e,Y⟩:=b.tbls c _ S;exact⟨d++e,by rw[Y,Array.append_assoc]⟩
def Un.kept(k:∀b u,h.get? b=↑u->h'.get? b=↑u):Un fs ex H H h h' :=
 ⟨λb D q _ _ _=>k b D q,λb D q _ _ _=>⟨D.slots,k b D q⟩,λ_ _ _ n _=>n,λb D q _=>⟨D,k b D q⟩,λ_ _ q=>q,λ_ _ _ q=>q,λ_ ps q=>⟨#[],by rw[q];simp⟩⟩
def Un.refl:Un fs ex H H h h:=Un.kept λ_ _ q=>q
def Un.laid(k:∀b u,h.get? b=↑u->h'.get? b=↑u)(I:h.objs.size<=a)(D:H a=none):Un fs ex H (aR H a o) h h' where
 keep:=λb u q _ _ _=>k b u q
 slot:=λb u q _ _ _=>⟨u.slots,k b u q⟩
 free:=λb u q n _=>by rw[e8 (bo (az (bc q) I))];exact n
 there:=λb u q _=>⟨u,k b u q⟩
 tups:=λb xs q=>by rw[e8 (kt q D)];exact q
 frzs:=λb u xs q=>by rw[e8 (kt q D)];exact q
 tbls:=λb ps q=>⟨#[],by rw[e8 (kt q D),q];simp⟩
def Un.write(I:kK (H x))(a:e=x\/H e=↑(.own x))(k:∀b u,b≠e->h.get? b=↑u->h'.get? b=↑u)(S:∃u,h'.get? e=↑u):Un fs ex H (aR H x o) h h':=by
 have V:∀b,H b=none->b≠x:=λb n z=>by subst z;rw[n] at I;exact I
 have Y:∀b,H b=none->b≠e:=λb n z=>by
  subst z;rcases a with r |r
  ·exact V b n r
  ·rw[n] at r;cases r
 have U:∀b u,H b=↑u->¬kK ↑u->b≠x:=λb u q nm z=>by subst z;rw[q] at I;exact nm I
 refine⟨λb u q n _ _=>k b u (Y b n) q,λb u q n _ _=>⟨u.slots,k b u (Y b n) q⟩,λb u q n _=>by rw[e8 (V b n)];exact n,λb u q _=>?_,
  λb xs q=>by rw[e8 (U b _ q λz=>z)];exact q,λb u xs q=>by rw[e8 (U b _ q λz=>z)];exact q,λb ps q=>⟨#[],by rw[e8 (U b _ q λz=>z),q];simp⟩⟩
 by_cases D:b=e
 ·subst D;exact S
 ·exact⟨u,k b u D q⟩
def kL(h:Heap)(H:Hp):ed:=(List.range h.objs.size).filter λa=>(H a).isSome
def eM(h:Heap)(H:Hp):Heap:=PySem.W.hideAll h (kL h H)
def uW(h:Heap)(H:Hp):(eM h H).objs.size=h.objs.size:=PySem.W.hideAll_size _ _
variable{o:Obj}
def uX(e:h.get? b=↑o)(n:H b=none):(eM h H).get? b=↑o :=
 PySem.W.hideAll_get _ e λD=>by
  have q:(H b).isSome=true:=(jq.mp D).2;rw[n] at q;simp at q
def uY(e:(eM h H).get? b=↑o):h.get? b=↑o/\H b=none:=by
 have e':h.get? b=↑o:=PySem.W.of_hideAll (kL h H) e;refine⟨e',?_⟩;cases q:H b with
 |none=>rfl |some x =>
   have D:b∈kL h H:=jq.mpr ⟨fq.mpr (bc e'),by simp[q]⟩;have z:(eM h H).get? b=none:=PySem.W.hideAll_none (kL h H) D;rw[z] at e;cases e
structure Mod (K:e5) (mg:Str->eb) (base:Heap):Prop where
 kin:K.In base
 glob:base.Ns mainGlobals mg
 blt:∃mb,base.Ns builtinsNs mb/\∀x:Str,x ≠ "__name__"->mb x=bootBuiltins x
 nolimit:base.NoLimit
structure Cx where
 prog:Program
 w:World
 K:e5
 mg:Str->eb
 base:Heap
 A:Around
 N:d3
 s₀:Shared
 H₀:Hp
 env:Env
 outer:ep
 stack:ep
 ex:ed
 fn:Str->Bool
 calm:Bool
 pn:e9
 xe:Value->Shared->Prop
def c_(l:ep):ed:=l.filterMap (·.frame)
protected abbrev Cx.fs(X:Cx):ed:=c_ X.outer
def iL(sc:Scope)(x:Str):Prop:=sc.names.lookup x=some .local\/sc.names.lookup x=some .cell\/sc.names.lookup x=some .free
def Loc(sc:Scope)(x:Str):Prop:=sc.names.lookup x=some .local\/sc.names.lookup x=some .cell
def Look(env:Env)(h:Heap)(m:Str->eb)(x:Str)(u:Value):Prop :=
 (env.kindOf x=some .local/\m x=↑u)\/((env.kindOf x=some .cell\/env.kindOf x=some .free)/\∃c,env.cells.lookup x=↑c/\h.IsCell c ↑u)
structure Cx.Ok (X:Cx):Prop where
 mod:Mod X.K X.mg X.base
 kind:X.env.scope.kind=.function
 glob:X.env.globals=mainGlobals
 blt:X.env.builtins=builtinsNs
 above:X.s₀.heap.objs.size<=X.env.locals
 inj:∀x y c,X.env.cells.lookup x=↑c->X.env.cells.lookup y=↑c->x=y
 has:∀x,(X.env.kindOf x=some .cell\/X.env.kindOf x=some .free)->∃c,X.env.cells.lookup x=↑c
 cab:∀x c,X.fn x=true->X.env.cells.lookup x=↑c->X.s₀.heap.objs.size<=c
 hd:X.calm=true->X.A.handled=none
 frames:X.A.frames=↑X.stack
 stk:X.stack=X.outer\/(X.stack=X.env::X.outer/\X.env.frame=↑X.env.locals)
 exf:∀b∈X.ex,b≠X.env.locals/\∀x c,X.env.cells.lookup x=↑c->c≠b
 bs:∀b o,X.base.get? b=↑o->X.s₀.heap.get? b=↑o/\X.H₀ b=none
 bsz:X.base.objs.size<=X.s₀.heap.objs.size
 noex:∀b o,X.base.get? b=↑o->b∉X.ex
 exfs:∀b∈X.ex,b∉X.fs
 funs:X.s₀.heap.FunFrames X.base X.outer
 frf:∀b∈X.fs,X.H₀ b=none
structure Inv (X:Cx) (pins:e9) (σ:List (Option V)) (H:Hp) (s:Shared):Prop where
 ok:X.Ok
 os:s.os=X.s₀.os
 bare:AllBare s.gens
 base:Un X.fs X.ex X.H₀ H X.s₀.heap s.heap
 loc:∃m,s.heap.Ns X.env.locals m/\∀(i:Nat) (x:Str) (v:V),X.N[i]?=↑x->σ[i]?=↑↑v->iL X.env.scope x->∃u,RelV v u/\Look X.env s.heap m x u
 cell:∀x c,X.env.cells.lookup x=↑c->∃v,s.heap.IsCell c v
 free:H X.env.locals=none
 freeC:∀x c,X.env.cells.lookup x=↑c->H c=none
 pin:∀p∈X.pn++pins,s.heap.get? p.1=↑p.2/\H p.1=none/\p.1≠X.env.locals/\p.1∉X.fs/\∀v,p.2.data≠.cell v
 hok:dL X.prog X.w H s.heap
 len:σ.length=X.N.length
variable{X:Cx}
def Cx.Ok.nofr(ok:X.Ok)(e:X.base.get? b=↑o):b∉X.fs:=λD=>by
 have:=(ok.funs.mem D).1;rw[e] at this;cases this
variable{pins:e9}{σ:List (Option V)}{s:Shared}
def Inv.bs(I:Inv X pins σ H s):∀b o,X.base.get? b=↑o->s.heap.get? b=↑o/\H b=none:=λb o e =>
 ⟨I.base.keep b o (I.ok.bs b o e).1 (I.ok.bs b o e).2 (I.ok.nofr e) (I.ok.noex b o e),I.base.free b o (I.ok.bs b o e).1 (I.ok.bs b o e).2 (I.ok.noex b o e)⟩
def Inv.bk(I:Inv X pins σ H s):∀b o,X.base.get? b=↑o->s.heap.get? b=↑o:=λb o e=>(I.bs b o e).1
def Inv.mod(I:Inv X pins σ H s):Mod X.K X.mg X.base:=I.ok.mod
def Inv.kIn(I:Inv X pins σ H s):X.K.In s.heap:=I.ok.mod.kin.keeps I.bk
def Inv.lt(I:Inv X pins σ H s):X.env.locals<s.heap.objs.size:=let ⟨_,D,_⟩:=I.loc;D.lt
def Inv.sz(I:Inv X pins σ H s):X.s₀.heap.objs.size<=s.heap.objs.size:=b5 I.ok.above (lm I.lt)
def Inv.nofs(I:Inv X pins σ H s)(h:s.heap.objs.size<=a):a∉X.fs:=λD=>by
 obtain⟨_,o,S,_⟩:=I.ok.funs.mem D;exact absurd (az (bc S) (b5 I.sz h)) (dy _)
def Inv.cne(I:Inv X pins σ H s):∀x c,X.env.cells.lookup x=↑c->c≠X.env.locals:=λx c e z=>by
 obtain⟨v,o,U,hd⟩:=I.cell x c e;obtain⟨m,⟨o',es,V,D,S,_⟩,_⟩:=I.loc;rw[z,D] at U;cases U;rw[S] at hd;cases hd
def Inv.funs(I:Inv X pins σ H s):s.heap.FunFrames X.base X.outer:=by
 have all:∀(l:ep),(∀b∈c_ l,b∈X.fs)->X.s₀.heap.FunFrames X.base l->s.heap.FunFrames X.base l:=by
  intro l;induction l with
  |nil=>intro _ _;trivial
  |cons env r ih =>
    intro V Y;obtain⟨a,⟨L,o,D,c,d,hd⟩,f⟩:=Y;have S:L∈X.fs:=V L (by unfold c_;rw[h9,D];exact ay);obtain⟨sl,e⟩:=I.base.slot L o d (I.ok.frf L S) S λz=>I.ok.exfs L z S;exact⟨a,⟨L,_,D,c,e,hd⟩,ih (λb U=>V b (by unfold c_;rw[h9,D];exact ai _ U)) f⟩
 exact all X.outer (λ_ U=>U) I.ok.funs
def Inv.stack(I:Inv X pins σ H s):s.heap.FunFrames X.base X.stack:=by
 rcases I.ok.stk with e | ⟨e,hf⟩
 ·rw[e];exact I.funs
 ·rw[e]
  obtain⟨m,D,_⟩:=I.loc;refine .cons (by rw[I.ok.kind];decide) hf D ?_ I.funs;exact Heap.get?_none_of_le (b5 I.ok.bsz I.ok.above)
def Inv.stkSub(I:Inv X pins σ H s):∀b∈c_ X.stack,b∈X.env.locals::X.fs:=λb D=>by
 rcases I.ok.stk with e | ⟨e,hf⟩
 ·rw[e] at D;exact ai _ D
 ·rw[e] at D
  unfold c_ at D;rw[h9,hf] at D;exact D
def Inv.stkFree(I:Inv X pins σ H s):∀b∈c_ X.stack,H b=none:=λb hb=>by
 rcases bz.mp (I.stkSub b hb) with e |hb
 ·rw[e];exact I.free
 ·obtain⟨_,o,D,_⟩:=I.ok.funs.mem hb
  exact I.base.free b o D (I.ok.frf b hb) λz=>I.ok.exfs b z hb
variable{g':Array GenState}{t':Nat}{d':Drawn}{ch:ed}
protected def Inv.step(I:Inv X pins σ H s)(S:∀b∈ch,(b∈X.ex\/X.s₀.heap.objs.size<=b)/\b≠X.env.locals/\(∀x c,X.env.cells.lookup x=↑c->c≠b)/\∀p∈X.pn++pins,p.1≠b)(keep:∀b o,b≠X.env.locals->b∉X.fs->b∉ch->s.heap.get? b=↑o->H b=none->h'.get? b=↑o)(f:∀b o,b≠X.env.locals->b∈X.fs->b∉ch->s.heap.get? b=↑o->H b=none->∃sl,h'.get? b=some { o with slots:=sl })(free:∀b o,b∉ch->s.heap.get? b=↑o->H b=none->H' b=none)(g:∀b o,b∉ch->s.heap.get? b=↑o->∃o',h'.get? b=↑o')(t:∀b xs,H b=↑(.tup xs)->H' b=↑(.tup xs))(y:∀b o u,H b=↑(.frz o u)->H' b=↑(.frz o u))(A:∀b ps,H b=↑(.tbl ps)->∃B,H' b=↑(.tbl (ps++B)))(ns:∀m,s.heap.Ns X.env.locals m->h'.Ns X.env.locals m)(F:dL X.prog X.w H' h')(N:AllBare g') :
  Inv X pins σ H' { s with heap:=h',gens:=g',drawn:=d',toks:=t' }:=by
 have C:∀b o,X.s₀.heap.get? b=↑o->b≠X.env.locals:=λb o e=>bo (az (bc e) I.ok.above);have Y:∀b o,X.s₀.heap.get? b=↑o->b∉X.ex->b∉ch:=λb o e D h=>by
  rcases(S b h).1 with z |z
  ·exact D z
  ·exact absurd (az (bc e) z) (dy _)
 have U:∀x c,X.env.cells.lookup x=↑c->∀v,s.heap.IsCell c v->h'.IsCell c v:=λx c e v O=>by
  obtain⟨o,j,hd⟩:=O;have V:c∉ch:=λz=>(S c z).2.2.1 x c e rfl;by_cases J:c∈X.fs
  ·obtain⟨sl,q⟩:=f c o (I.cne x c e) J V j (I.freeC x c e)
   exact⟨_,q,hd⟩
  ·exact⟨o,keep c o (I.cne x c e) J V j (I.freeC x c e),hd⟩
 refine⟨I.ok,I.os,N,⟨λb o e n h D=>?_,λb o e n h D=>?_,λb o e n D=>?_,λb o e D=>?_,λb xs e=>t b xs (I.base.tups b xs e),λb o xs e=>y b o xs (I.base.frzs b o xs e),λb ps e=>?_⟩,?_,λx c e=>?_,?_,λx c e=>?_,λp K=>?_,F,I.len⟩
 ·exact keep b o (C b o e) h (Y b o e D) (I.base.keep b o e n h D) (I.base.free b o e n D)
 ·obtain⟨sl,a⟩:=I.base.slot b o e n h D
  obtain⟨G,E⟩:=f b _ (C b o e) h (Y b o e D) a (I.base.free b o e n D);exact⟨G,E⟩
 ·obtain⟨o',a⟩:=I.base.there b o e D
  exact free b o' (Y b o e D) a (I.base.free b o e n D)
 ·obtain⟨o',a⟩:=I.base.there b o e D
  exact g b o' (Y b o e D) a
 ·obtain⟨P,a⟩:=I.base.tbls b ps e
  obtain⟨Q,E⟩:=A b _ a;exact⟨P++Q,by rw[E,Array.append_assoc]⟩
 ·obtain⟨m,R,T⟩:=I.loc
  refine⟨m,ns m R,λi x v a E W=>?_⟩;obtain⟨u,r,l⟩:=T i x v a E W;refine⟨u,r,?_⟩;rcases l with l | ⟨k,c,e,z⟩
  ·exact .inl l
  ·exact .inr ⟨k,c,e,U x c e _ z⟩
 ·obtain⟨v,z⟩:=I.cell x c e
  exact⟨v,U x c e v z⟩
 ·obtain⟨m,⟨o,_,_,j,_⟩,_⟩:=I.loc
  exact free _ o (λz=>(S _ z).2.1 rfl) j I.free
 ·obtain⟨v,o,j,hd⟩:=I.cell x c e
  exact free c o (λz=>(S c z).2.2.1 x c e rfl) j (I.freeC x c e)
 ·obtain⟨e,n,L,M,d⟩:=I.pin p K
  have V:p.1∉ch:=λz=>(S p.1 z).2.2.2 p K rfl;exact⟨keep p.1 p.2 L M V e n,free p.1 p.2 V e n,L,M,d⟩
def Inv.un(I:Inv X pins σ H s)(u:Un X.fs [] H H' s.heap h')(S:dL X.prog X.w H' h'):Inv X pins σ H' { s with heap:=h',toks:=t' }:=by
 obtain⟨m,⟨o,es,g,a,r⟩,_⟩:=id I.loc;obtain⟨sl,c⟩:=u.any a I.free ⋯;exact I.step (g':=s.gens) (d':=s.drawn) (ch:=[]) (λ_ z=>nomatch z) (λb o _ U _ e n=>u.keep b o e n U ⋯) (λb o _ U _ e n=>u.slot b o e n U ⋯) (λb o _ e n=>u.free b o e n ⋯) (λb o _ e=>u.there b o e ⋯) u.tups u.frzs u.tbls (λh d=>by
  obtain⟨o',V,Y,D,f⟩:=d;rw[a] at D;cases D;exact⟨_,V,Y,c,f⟩) S I.bare
def Inv.call(I:Inv X pins σ H s)(u:Un (c_ X.stack) ch H H' s.heap h')(V:dL X.prog X.w H' h')(g:AllBare g')(S:∀b∈ch,(b∈X.ex\/X.s₀.heap.objs.size<=b)/\b≠X.env.locals/\(∀x c,X.env.cells.lookup x=↑c->c≠b)/\∀p∈X.pn++pins,p.1≠b) :
  Inv X pins σ H' { s with heap:=h',gens:=g',drawn:=d',toks:=t' }:=by
 obtain⟨m,⟨o,es,k,f,r⟩,_⟩:=id I.loc;obtain⟨sl,Y⟩:=u.any f I.free λz=>(S _ z).2.1 rfl;exact I.step (ch:=ch) S (λb o Y h D e n=>u.keep b o e n (λz=>(bz.mp (I.stkSub b z)).elim Y h) D) (λb o _ _ D e n=>u.any e n D) (λb o D e n=>u.free b o e n D) (λb o D e=>u.there b o e D) u.tups u.frzs u.tbls (λl i=>by
  obtain⟨o',a,d,U,j⟩:=i;rw[f] at U;cases U;exact⟨_,a,d,Y,j⟩) V g
variable{it:Addr}
def Inv.turned(I:Inv X pins σ H s)(k:∀b o,b≠it->s.heap.get? b=↑o->h'.get? b=↑o)(V:H it=none)(U:it≠X.env.locals)(h1:it∈X.ex\/X.s₀.heap.objs.size<=it)(h2:∀x c,X.env.cells.lookup x=↑c->c≠it)(Y:∀p∈X.pn++pins,p.1≠it):Inv X pins σ H { s with heap:=h',toks:=t' }:=by
 have S:∀b u,H b=↑u->b≠it:=λb u e z=>by rw[z,V] at e;cases e
 refine I.step (g':=s.gens) (d':=s.drawn) (ch:=[it]) (λb a=>?_) (λb o _ _ D e _=>k b o (λz=>D (by simp[z])) e) (λb o _ _ D e _=>⟨o.slots,k b o (λz=>D (by simp[z])) e⟩) (λ_ _ _ _ n=>n)
  (λb o D e=>⟨o,k b o (λz=>D (by simp[z])) e⟩) (λ_ _ e=>e) (λ_ _ _ e=>e) (λb ps e=>⟨#[],by rw[e];simp⟩) (λm d=>?_) (λb u e=>?_) I.bare
 ·have e:b=it:=by simpa using a
  subst e;exact⟨h1,U,h2,Y⟩
 ·obtain⟨o,es,f,g,r⟩:=d
  exact⟨o,es,f,k _ o (Ne.symm U) g,r⟩
 ·refine(I.hok b u e).stay (λc v D q=>k c v ?_ q) (λ_ q=>q) λ_ _ q=>q
  rcases D with z |z
  ·rw[z];exact S b u e
  ·exact S c _ z
def Inv.tok(I:Inv X pins σ H s)(t:Nat):Inv X pins σ H { s with toks:=t }:=I.un (h':=s.heap) (t':=t) Un.refl I.hok
def Inv.kept{t':Nat}(I:Inv X pins σ H s)(k:∀b u,s.heap.get? b=↑u->h'.get? b=↑u):Inv X pins σ H { s with heap:=h',toks:=t' }:=I.un (Un.kept k) (I.hok.kept k)
def Inv.laid{a:Addr}{o:HO}{t':Nat}(I:Inv X pins σ H s)(k:∀b u,s.heap.get? b=↑u->h'.get? b=↑u)(D:s.heap.objs.size<=a)(new:bC X.prog X.w (aR H a o) h' a o) :
  Inv X pins σ (aR H a o) { s with heap:=h',toks:=t' }:=I.un (Un.laid k D (I.hok.fresh D)) (I.hok.laid k D new)
def Inv.write{x e:Addr}{o:HO}{t':Nat}(I:Inv X pins σ H s)(S:kK (H x))(U:e=x\/H e=↑(.own x))(k:∀b u,b≠e->s.heap.get? b=↑u->h'.get? b=↑u)(D:∃u,h'.get? e=↑u)(new:bC X.prog X.w (aR H x o) h' x o):Inv X pins σ (aR H x o) { s with heap:=h',toks:=t' }:=I.un (Un.write S U k D) (I.hok.write S U k D new)
def Inv.pins_of{D:e9}(I:Inv X pins σ H s)(h:∀p∈D,s.heap.get? p.1=↑p.2/\H p.1=none/\p.1≠X.env.locals/\p.1∉X.fs/\∀v,p.2.data≠.cell v):Inv X D σ H s :=
 ⟨I.ok,I.os,I.bare,I.base,I.loc,I.cell,I.free,I.freeC,λp S=>(dh.mp S).elim (λz=>I.pin p (ek _ z)) (h p),I.hok,I.len⟩
variable{x:Str}{N:d3}{i:Nat}{j:Int}
def ll(D:N.Nodup){j:Nat}(a:N[i]?=↑x)(b:N[j]?=↑x):i=j:=by
 obtain⟨h1,I⟩:=ah.mp a;obtain⟨h2,S⟩:=ah.mp b;exact(List.getElem_inj D).mp (I.trans S.symm)
variable{M:Model}{A:Around}{E:Value->Shared->Prop}{v:V}{Q:Unit->Shared->Prop}
def lu(I:Inv X pins σ H s)(hN:X.N.Nodup)(hi:X.N[i]?=↑x)(V:Loc X.env.scope x)(r:RelV v u)(h:∀s',Inv X pins (σ.set i ↑v) H s'->(∃a,Heap.SameBut a s.heap s'.heap/\(a=X.env.locals\/X.env.cells.lookup x=↑a))->Q () s')(hf:X.fn x=true\/X.env.scope.names.lookup x=some .local:=by first |exact .inl rfl |exact .inr rfl |assumption):wpAny M A (storeName X.env x u) Q E s:=by
 obtain⟨m,R,hl⟩:=id I.loc;have C:(X.env.scope.kind==.class || (X.env.scope.kind==.module && X.env.locals != X.env.globals))=false:=by rw[I.ok.kind];rfl
 have g:i<σ.length:=by rw[I.len];exact(ah.mp hi).1
 have cne:=I.cne;have S:∀ {a:Addr} {h':Heap},(∃o,s.heap.get? a=↑o/\H a=none)->Heap.SameBut a s.heap h'->dL X.prog X.w H h':=λ{a h'} ha D b ob e=>by
  obtain⟨_,_,Y⟩:=ha;refine(I.hok b ob e).stay (λc L hc q=>(D.2 c ?_).trans q) (λ_ q=>q) λ_ _ q=>q;rintro rfl;rcases hc with rfl |hc
  ·rw[Y] at e;cases e
  ·rw[Y] at hc;cases hc
 rcases V with hk |hk
 ·refine wpAny_storeName_local hk R (λh' T D=>?_) C
  obtain⟨oL,_,_,W,_⟩:=id R;refine h _ ⟨I.ok,I.os,I.bare,⟨λb o e n l V=>?_,λb o e n l V=>?_,I.base.free,λb o e V=>?_,I.base.tups,I.base.frzs,I.base.tbls⟩,⟨_,T,λj y Z U f e3=>?_⟩,λy c e=>?_,I.free,I.freeC,λp hp=>?_,S ⟨oL,W,I.free⟩ D,by simpa using I.len⟩ ⟨_,D,.inl rfl⟩
  ·exact(D.2 b (bo (az (bc e) I.ok.above))).trans (I.base.keep b o e n l V)
  ·obtain⟨sl,U⟩:=I.base.slot b o e n l V
   exact⟨sl,(D.2 b (bo (az (bc e) I.ok.above))).trans U⟩
  ·obtain⟨o',U⟩:=I.base.there b o e V
   exact⟨o',(D.2 b (bo (az (bc e) I.ok.above))).trans U⟩
  ·by_cases t:j=i
   ·subst t
    rw[hi] at U;cases U;rw[cu g] at f;cases f;exact⟨u,r,.inl ⟨hk,by simp⟩⟩
   ·rw[b8 (Ne.symm t)] at f
    obtain⟨u',r',q⟩:=hl j y Z U f e3;refine⟨u',r',?_⟩;rcases q with⟨k,e⟩ | ⟨k,c,e,z⟩
    ·refine .inl ⟨k,?_⟩
     have:y≠x:=λe=>t (ll hN U (e ▸ hi));simp[this,e]
    ·exact .inr ⟨k,c,e,z.sameBut D (cne y c e)⟩
  ·obtain⟨L,z⟩:=I.cell y c e
   exact⟨L,z.sameBut D (cne y c e)⟩
  ·obtain⟨e,n,O,nf,d⟩:=I.pin p hp
   exact⟨(D.2 p.1 O).trans e,n,O,nf,d⟩
 ·have B:X.fn x=true:=by
   rcases hf with z |z
   ·exact z
   ·rw[z] at hk;cases hk
  obtain⟨c,hc⟩:=I.ok.has x (.inl hk);obtain⟨L,z⟩:=I.cell x c hc;refine wpAny_storeName_cell I.ok.kind hk hc z (λh' F D=>?_);obtain⟨oc,G,J⟩:=id z;refine h { s with heap:=h' } ⟨I.ok,I.os,I.bare,⟨λb o e n l V=>?_,λb o e n l V=>?_,I.base.free,λb o e V=>?_,I.base.tups,I.base.frzs,I.base.tbls⟩,⟨m,R.sameBut D (Ne.symm (cne x c hc)),λj y Z U f e3=>?_⟩,λy P e=>?_,I.free,I.freeC,λp hp=>?_,S ⟨oc,G,I.freeC x c hc⟩ D,by simpa using I.len⟩ ⟨c,D,.inr hc⟩
  ·exact(D.2 b (bo (az (bc e) (I.ok.cab x c B hc)))).trans (I.base.keep b o e n l V)
  ·obtain⟨sl,U⟩:=I.base.slot b o e n l V
   exact⟨sl,(D.2 b (bo (az (bc e) (I.ok.cab x c B hc)))).trans U⟩
  ·obtain⟨o',U⟩:=I.base.there b o e V
   exact⟨o',(D.2 b (bo (az (bc e) (I.ok.cab x c B hc)))).trans U⟩
  ·by_cases t:j=i
   ·subst t
    rw[hi] at U;cases U;rw[cu g] at f;cases f;exact⟨u,r,.inr ⟨.inl hk,c,hc,F⟩⟩
   ·rw[b8 (Ne.symm t)] at f
    obtain⟨u',r',q⟩:=hl j y Z U f e3;refine⟨u',r',?_⟩;rcases q with q | ⟨k,P,e,z'⟩
    ·exact .inl q
    ·refine .inr ⟨k,P,e,z'.sameBut D ?_⟩
     rintro rfl;exact t (ll hN U (I.ok.inj _ _ _ e hc ▸ hi))
  ·by_cases K:P=c
   ·subst K;exact⟨_,F⟩
   ·obtain⟨w2,z2⟩:=I.cell y P e
    exact⟨w2,z2.sameBut D K⟩
  ·obtain⟨e,n,O,nf,d⟩:=I.pin p hp
   refine⟨(D.2 p.1 ?_).trans e,n,O,nf,d⟩;intro q;rw[q,G] at e;have q':oc=p.2:=bg e;exact d L (by rw[<-q'];exact J)
def l0(I:Inv X pins σ H s)(D:X.N.Nodup)(hi:X.N[i]?=↑x)(S:Loc X.env.scope x)(r:RelV v u)(h:∀s',Inv X pins (σ.set i ↑v) H s'->Q () s')(U:X.fn x=true\/X.env.scope.names.lookup x=some .local:=by first |exact .inl rfl |exact .inr rfl |assumption):wpAny M A (storeName X.env x u) Q E s :=
 lu I D hi S r (λs' V _=>h s' V) U
variable{s':Shared}
def Inv.call'(I:Inv X pins σ H s)(U:s'.os=s.os)(u:Un (c_ X.stack) ch H H' s.heap s'.heap)(D:dL X.prog X.w H' s'.heap)(V:AllBare s'.gens)(S:∀b∈ch,(b∈X.ex\/X.s₀.heap.objs.size<=b)/\b≠X.env.locals/\(∀x c,X.env.cells.lookup x=↑c->c≠b)/\∀p∈X.pn++pins,p.1≠b):Inv X pins σ H' s':=by
 obtain⟨h',g',d',t',o'⟩:=s';have e:o'=s.os:=U;subst e;exact I.call (g':=g') (t':=t') (d':=d') u D V S
abbrev XK:=Value->Option Addr->Hp->Prop
abbrev St:=List (Option V)
abbrev VK:=V->Hp->Prop
abbrev TE:=St->Hp->VK->Prop
abbrev TT:=St->Hp->(Bool->Hp->Prop)->Prop
abbrev TA:=St->Hp->(fe->Hp->Prop)->Prop
structure eY where
 nx:St->Hp->Prop
 rt:VK
 bk:St->Hp->Prop:=λ_ _=>False
 ct:St->Hp->Prop:=λ_ _=>False
abbrev TS:=eY->St->Hp->Prop
inductive EP (X:Cx) (pins:e9) (σ:St) (Q:VK) (u:Value) (s':Shared):Prop
 |mk (v:V) (H':Hp) (i:Inv X pins σ H' s') (r:RelV v u) (q:Q v H'):EP X pins σ Q u s'
inductive TP (X:Cx) (pins:e9) (σ:St) (Q:Bool->Hp->Prop) (b:Bool) (s':Shared):Prop
 |mk (H':Hp) (i:Inv X pins σ H' s') (q:Q b H'):TP X pins σ Q b s'
inductive AP (X:Cx) (pins:e9) (σ:St) (Q:fe->Hp->Prop) (us:d5) (s':Shared):Prop
 |mk (vs:fe) (H':Hp) (i:Inv X pins σ H' s') (r:aL vs us) (q:Q vs H'):AP X pins σ Q us s'
def SP(X:Cx)(pins:e9)(D:eY)(f:Flow)(s':Shared):Prop :=
 match f with
 | .next=>∃I H',Inv X pins I H' s'/\D.nx I H' | .brk=>∃I H',Inv X pins I H' s'/\D.bk I H' | .cont=>∃I H',Inv X pins I H' s'/\D.ct I H' | .ret u=>∃v I H',Inv X pins I H' s'/\RelV v u/\D.rt v H'
def PE(X:Cx)(e:Expr)(t:TE):Prop :=
 ∀(pins:e9) (s:Shared) (σ:St) (H:Hp) (Q:VK),Inv X pins σ H s->t σ H Q->wpAny (model X.prog X.w) X.A (eval e X.env) (EP X pins σ Q) X.xe s
def PT(X:Cx)(e:Expr)(t:TT):Prop :=
 ∀(pins:e9) (s:Shared) (σ:St) (H:Hp) (Q:Bool->Hp->Prop),Inv X pins σ H s->t σ H Q->wpAny (model X.prog X.w) X.A (isTrue e X.env (eval e X.env)) (TP X pins σ Q) X.xe s
def PW(X:Cx)(e:Expr)(t:TT):Prop :=
 ∀(D:Sem Value) (pins:e9) (s:Shared) (σ:St) (H:Hp) (Q:Bool->Hp->Prop),Inv X pins σ H s->t σ H Q->wpAny (model X.prog X.w) X.A (isTrue e X.env D) (TP X pins σ Q) X.xe s
variable{e:Expr}{t:TE}
def PW.pt{t:TT}(h:PW X e t):PT X e t:=h _
def PA(X:Cx)(es:er)(t:TA):Prop :=
 ∀(pos:Pos) (pins:e9) (s:Shared) (σ:St) (H:Hp) (Q:fe->Hp->Prop),Inv X pins σ H s->t σ H Q->wpAny (model X.prog X.w) X.A (spliced (backTo pos (starEach es X.env))) (AP X pins σ Q) X.xe s
def PS(X:Cx)(st:Stmt)(t:TS):Prop :=
 ∀(pins:e9) (s:Shared) (σ:St) (H:Hp) (D:eY),Inv X pins σ H s->t D σ H->wpAny (model X.prog X.w) X.A (exec st X.env) (SP X pins D) X.xe s
def e_(X:Cx)(st:List Stmt)(t:TS):Prop :=
 ∀(pins:e9) (s:Shared) (σ:St) (H:Hp) (D:eY),Inv X pins σ H s->t D σ H->wpAny (model X.prog X.w) X.A (execs st X.env) (SP X pins D) X.xe s
def aW{t:Sem α}{Q D:α->Shared->Prop}(h:wpAny M A t Q E s)(I:∀a s,Q a s->D a s):wpAny M A t D E s:=fz h I λ_ _ x=>x
def gE(i:Nat):TE:=λσ H Q=>∃v,σ[i]?=↑↑v/\Q v H
def tC(v:V):TE:=λ_ H Q=>Q v H
variable{pos:Pos}
def uZ(U:X.N[i]?=↑x)(V:iL X.env.scope x)(hd:(x==("__debug__" : Str))=false:=by decide)(S:(x==("__classdict__" : Str))=false:=by decide):PE X (.Name x pos) (gE i):=by
 intro pins s σ H Q I h;obtain⟨v,e,h⟩:=h;obtain⟨m,Y,a⟩:=I.loc;obtain⟨u,r,l⟩:=a i x v U e V;have D:EP X pins σ Q u s:=⟨v,H,I,r,h⟩;rcases l with⟨hk,b⟩ | ⟨hk,c,hc,hcell⟩
 ·exact wpAny_Name (wpAny_loadName_local I.ok.kind hk Y b D) hd
 ·rcases hk with hk |hk
  ·exact wpAny_Name (wpAny_loadName_cell I.ok.kind hk hc hcell D) hd
  ·exact wpAny_Name (wpAny_loadName_free I.ok.kind hk hc hcell D S) hd
def oX{i j pos}:PE X (.Constant ↥i j pos) (tC ↥i):=λ_ _ _ H _ I h=>wpAny_Constant_int ⟨.int i,H,I.tok _,⟨_,rfl⟩,h⟩
def u_{b j pos}:PE X (.Constant (.bool b) j pos) (tC (.bl b)):=λ_ _ _ H _ I h=>Constant_bool ⟨.bl b,H,I,rfl,h⟩
def oY{x j pos}:PE X (.Constant (.str x) j pos) (tC (.str x)):=λ_ _ _ H _ I h=>Calls.Constant_str ⟨.str x,H,I.tok _,⟨_,rfl⟩,h⟩
def Gl(X:Cx)(x:Str):Prop:=X.env.kindOf x=some .globalImplicit
variable{σ:St}{Q:Value->Shared->Prop}
def qe(I:Inv X pins σ H s)(D:Gl X x)(S:X.mg x=↑u)(h:Q u s)(hd:(x==("__debug__" : Str))=false:=by decide):wpAny (model X.prog X.w) X.A (eval (.Name x pos) X.env) Q E s :=
 Calls.Name_function_global I.ok.kind D (Calls.loadGlobal_global (by rw[I.ok.glob];exact I.mod.glob.keeps I.bk) S h) hd
def t3(I:Inv X pins σ H s)(D:Gl X x)(S:X.mg x=none)(U:bootBuiltins x=↑u)(h:Q u s)(V:x ≠ "__name__":=by decide)(hd:(x==("__debug__" : Str))=false:=by decide):wpAny (model X.prog X.w) X.A (eval (.Name x pos) X.env) Q E s:=by
 obtain⟨Y,h1,h2⟩:=I.mod.blt;exact Calls.Name_function_global I.ok.kind D (Calls.loadGlobal_builtin (by rw[I.ok.glob];exact I.mod.glob.keeps I.bk) S (by rw[I.ok.blt];exact h1.keeps I.bk) ((h2 x V).trans U) h) hd
def oZ(D:Gl X x)(S:X.mg x=↑u)(r:RelV v u)(hd:(x==("__debug__" : Str))=false:=by decide):PE X (.Name x pos) (tC v) :=
 λ_ _ _ H _ I h=>qe I D S ⟨v,H,I,r,h⟩ hd
def zx(D:Gl X x)(S:X.mg x=none)(U:bootBuiltins x=↑u)(r:RelV v u)(V:x ≠ "__name__":=by decide)(hd:(x==("__debug__" : Str))=false:=by decide):PE X (.Name x pos) (tC v) :=
 λ_ _ _ H _ I h=>t3 I D S U ⟨v,H,I,r,h⟩ V hd
def tB(t:TE):TT:=λσ H Q=>t σ H λx H1=>∃c,x=.bl c/\Q c H1
def vc(h:PE X e t)(S:∀D,isTrue e X.env D=(do let v <-D;standAt e.pos;holding [v] (truthy v)):=by intro _;rfl):PT X e (tB t):=by
 intro pins s σ H Q I U;refine isTrue_plain (aW (h pins s σ H _ I U) λv c V=>?_) (S _);obtain⟨x,H1,Y,a,b⟩:=V;obtain⟨d,rfl,q⟩:=b;cases a;exact jl ⟨H1,Y,q⟩
def l2(t u:TT):TT:=λσ H Q=>t σ H λc H1=>if c=true then u σ H1 Q else Q false H1
def vl(t u:TT):TT:=λσ H Q=>t σ H λc H1=>if c=true then Q true H1 else u σ H1 Q
def lA(t:TT):TT:=λσ H Q=>t σ H λc H1=>Q (!c) H1
variable{a:Expr}{tA:TT}
def vr(D:PT X a tA):PW X (.BoolOp .And [a] pos) tA:=by
 intro S pins s σ H Q I h;refine isTrue_and (aW (D pins s σ H Q I h) λc U e=>?_);cases c with
 |true=>exact isTrue_and_nil e |false=>exact e
def vu(D:PT X a tA):PW X (.BoolOp .Or [a] pos) tA:=by
 intro S pins s σ H Q I h;refine isTrue_or (aW (D pins s σ H Q I h) λc U e=>?_);cases c with
 |false=>exact isTrue_or_nil e |true=>exact e
variable{b:Expr}{tB':TT}{rest:er}
def vx(U:PT X a tA)(V:PW X (.BoolOp .And (b::rest) pos) tB'):PW X (.BoolOp .And (a::b::rest) pos) (l2 tA tB'):=by
 intro Y pins s σ H Q I h;refine isTrue_and (aW (U pins s σ H _ I h) λc d e=>?_);obtain⟨H1,D,S⟩:=e;cases c with
 |true=>exact V Y pins d σ H1 Q D S |false=>exact⟨H1,D,S⟩
def v3(U:PT X a tA)(V:PW X (.BoolOp .Or (b::rest) pos) tB'):PW X (.BoolOp .Or (a::b::rest) pos) (vl tA tB'):=by
 intro Y pins s σ H Q I h;refine isTrue_or (aW (U pins s σ H _ I h) λc d e=>?_);obtain⟨H1,D,S⟩:=e;cases c with
 |true=>exact⟨H1,D,S⟩ |false=>exact V Y pins d σ H1 Q D S
def v4(D:PT X a tA):PT X (.UnaryOp .Not a pos) (lA tA):=by
 intro pins s σ H Q I h;refine isTrue_not (aW (D pins s σ H (λc H1=>Q (!c) H1) I h) λc U h=>?_);obtain⟨H1,S,q⟩:=h;exact⟨H1,S,q⟩
def v5(ta tb:TE):TE:=λσ H Q=>ta σ H λx H1=>∃c,x=.bl c/\if c=true then tb σ H1 Q else Q (.bl false) H1
def vA(ta:TE):TE:=λσ H Q=>ta σ H λx H1=>∃c,x=.bl c/\Q (.bl (!c)) H1
def vB{op}(h:PE X a t):PE X (.BoolOp op [a] pos) t:=λpins s σ H Q I D=>BoolOp_one (h pins s σ H Q I D)
variable{ta tb:TE}
def vC(U:PE X a ta)(V:PE X (.BoolOp .And (b::rest) pos) tb):PE X (.BoolOp .And (a::b::rest) pos) (v5 ta tb):=by
 intro pins s σ H Q I h;refine BoolOp_and (aW (U pins s σ H _ I h) λv Y d=>?_);obtain⟨x,H1,S,e,D⟩:=d;obtain⟨c,rfl,D⟩:=D;cases e;refine jl ?_;cases c with
 |true=>exact V pins Y σ H1 Q S D |false=>exact⟨.bl false,H1,S,rfl,D⟩
def vD(S:PE X a ta):PE X (.UnaryOp .Not a pos) (vA ta):=by
 intro pins s σ H Q I h;refine UnaryOp_ (aW (S pins s σ H _ I h) λv b U=>?_);obtain⟨x,H1,V,Y,D⟩:=U;obtain⟨c,rfl,D⟩:=D;cases Y;exact not_of (jl ⟨.bl (!c),H1,V,rfl,D⟩)
def cK(K:e5)(H:Hp)(a:Addr)(xs:fe):Prop :=
 Rd H a (.lst xs) \/
  ∃(o:Obj) (its:fc) (n:Nat),K.lookup a=↑o/\o.cls=.type "list"/\o.dict=none/\o.data=.seq its n/\its.size<=sizeLine/\aL xs its.toList
def dA(K:e5)(H:Hp)(a:Addr)(xs:fe):Prop :=
 Rd H a (.tup xs) \/
  ∃(o:Obj) (its:fc) (n:Nat),K.lookup a=↑o/\o.cls=.type "tuple"/\o.data=.seq its n/\its.size<=sizeLine/\aL xs its.toList
def lB:Value->Option V
 | .none=>some .non | .bool b=>↑(.bl b) | .int i _=>↑↥i
 | .str x _=>↑(.str x) | .bytes b _=>↑(.byt b) | .float b _=>↑(.flt b) | .ref a=>↑(.ref a) | .type n=>↑(.ty n) |_=>none
def RelV.abs{x:V}(r:RelV x u):lB u=↑x:=by
 cases x with
 |non=>cases r;rfl
 |bl _=>cases r;rfl
 |int _=>obtain⟨t,rfl⟩:=r;rfl |str _=>obtain⟨t,rfl⟩:=r;rfl |byt _=>obtain⟨t,rfl⟩:=r;rfl |flt _=>obtain⟨t,rfl⟩:=r;rfl |ref _=>cases r;rfl
 |ty _=>cases r;rfl
def RelV.inj{x y:V}{u:Value}(r:RelV x u)(q:RelV y u):x=y:=bg (r.abs.symm.trans q.abs)
def aL.inj{xs ys:fe}{us:d5}(h:aL xs us)(g:aL ys us):xs=ys:=by
 induction h generalizing ys with
 |nil=>cases g;rfl
 |cons r t ih=>cases g with |cons p q=>rw[r.inj p,ih q]
variable{a:Addr}{K:e5}
def dA.of(h:H a=↑(.tup xs)):dA K H a xs:=.inl (.inl h)
def Inv.list(I:Inv X pins σ H s)(h:cK X.K H a xs):∃its:d5,aL xs its/\PlainL s.heap a its.toArray/\xs.length<=sizeLine:=by
 rcases h with h | ⟨o,its,n,hk,hc,hd,hs,hz,r⟩
 ·obtain⟨z,its,n,r,e⟩:=h.ok I.hok
  exact⟨its,r,⟨_,n,e,rfl,rfl,rfl⟩,z⟩
 ·refine⟨its.toList,r,⟨o,n,I.kIn a o hk,hc,hd,by simpa using hs⟩,?_⟩
  have e:=r.length;simp only[fu] at e;omega
def Inv.tuple(I:Inv X pins σ H s)(h:dA X.K H a xs):∃its:d5,aL xs its/\IsTup s.heap a its.toArray/\xs.length<=sizeLine:=by
 rcases h with h | ⟨o,its,n,hk,hc,hs,hz,r⟩
 ·obtain⟨z,its,r,p⟩:=h.ok I.hok
  exact⟨its,r,p,z⟩
 ·refine⟨its.toList,r,⟨o,I.kIn a o hk,hc,n,by simpa using hs⟩,?_⟩
  have e:=r.length;simp only[fu] at e;omega
def Inv.list_inj(I:Inv X pins σ H s)(h:cK X.K H a xs)(h':cK X.K H a ys):xs=ys:=by
 obtain⟨its,r,⟨o,n,e,_,_,d⟩,_⟩:=I.list h;obtain⟨its',D,⟨o',S,e',_,_,d'⟩,_⟩:=I.list h';rw[e] at e';cases e';rw[d] at d';injection d' with d1 _;have:its=its':=by simpa using congrArg Array.toList d1
 subst this;exact r.inj D
def Inv.tuple_inj(I:Inv X pins σ H s)(h:dA X.K H a xs)(h':dA X.K H a ys):xs=ys:=by
 obtain⟨its,r,⟨o,e,_,n,d⟩,_⟩:=I.tuple h;obtain⟨its',D,⟨o',e',_,S,d'⟩,_⟩:=I.tuple h';rw[e] at e';cases e';rw[d] at d';injection d' with d1 _;have:its=its':=by simpa using congrArg Array.toList d1
 subst this;exact r.inj D
abbrev Cx.wish(X:Cx)(E:Value->Shared->Prop):Cx:={ X with xe:=E }
abbrev Cx.nox(X:Cx):Cx:=X.wish λ_ _=>False
def Cx.Ok.wish(ok:X.Ok)(E:Value->Shared->Prop):(X.wish E).Ok :=
 ⟨ok.mod,ok.kind,ok.glob,ok.blt,ok.above,ok.inj,ok.has,ok.cab,ok.hd,ok.frames,ok.stk,ok.exf,ok.bs,ok.bsz,ok.noex,ok.exfs,ok.funs,ok.frf⟩
def Cx.Ok.unwish(ok:(X.wish E).Ok):X.Ok :=
 ⟨ok.mod,ok.kind,ok.glob,ok.blt,ok.above,ok.inj,ok.has,ok.cab,ok.hd,ok.frames,ok.stk,ok.exf,ok.bs,ok.bsz,ok.noex,ok.exfs,ok.funs,ok.frf⟩
def Inv.wish(I:Inv X pins σ H s)(E:Value->Shared->Prop):Inv (X.wish E) pins σ H s:=⟨I.ok.wish E,I.os,I.bare,I.base,I.loc,I.cell,I.free,I.freeC,I.pin,I.hok,I.len⟩
def Inv.unwish(I:Inv (X.wish E) pins σ H s):Inv X pins σ H s:=⟨I.ok.unwish,I.os,I.bare,I.base,I.loc,I.cell,I.free,I.freeC,I.pin,I.hok,I.len⟩
def SP.unwish{D:eY}{f:Flow}{s':Shared}(h:SP (X.wish E) pins D f s'):SP X pins D f s':=by
 cases f with
 |next=>obtain⟨S,H',I,q⟩:=h;exact⟨S,H',I.unwish,q⟩ |brk=>obtain⟨S,H',I,q⟩:=h;exact⟨S,H',I.unwish,q⟩ |cont=>obtain⟨S,H',I,q⟩:=h;exact⟨S,H',I.unwish,q⟩ |ret u=>obtain⟨v,S,H',I,r,q⟩:=h;exact⟨v,S,H',I.unwish,r,q⟩
variable{t:TS}{st:Stmt}
def e_.nox{st:List Stmt}(h:e_ X.nox st t):e_ X st t:=λpins s σ H D I S =>
 fz (h pins s σ H D (I.wish _) S) (λ_ _ q=>q.unwish) λ_ _ z=>False.elim z
def vE:TS:=λD σ H=>D.nx σ H
def lC(t u:TS):TS:=λD σ H=>t { D with nx:=u D } σ H
def vF:e_ X [] vE:=λ_ _ σ H _ I h=>kl ⟨σ,H,I,h⟩
variable{u:TS}{rest:List Stmt}
def vG(h1:PS X st t)(h2:e_ X rest u):e_ X (st::rest) (lC t u):=by
 intro pins s σ H D I h;refine wpAny_execs_cons (aW (h1 pins s σ H { D with nx:=u D } I h) λf U q=>?_);cases f with
 |next =>
   obtain⟨S,H',V,q⟩:=q;exact h2 pins U S H' D V q
 |ret v=>exact q |brk=>exact q |cont=>exact q
def vH(h1:PS X st t):e_ X [st] t:=by
 intro pins s σ H D I h;refine wpAny_execs_cons (aW (h1 pins s σ H D I h) λf S q=>?_);cases f with
 |next=>exact kl q |ret v=>exact q |brk=>exact q |cont=>exact q
def Inv.quiet(I:Inv X pins σ H s):interactive X.env=false:=by simp[interactive,I.ok.kind]
def vI(te:TE):TS:=λD σ H=>te σ H λ_ H1=>D.nx σ H1
variable{te:TE}
def o_(S:PE X e te)(U:‹swapsWith e none pos.line X.env=pure false›):PS X (.Expr e pos) (vI te):=by
 intro pins s σ H D I h;exact wpAny_Expr_any (aW (S pins s σ H _ I h) λv s1 ⟨x,H1,I1,r1,q1⟩=>⟨σ,H1,I1,q1⟩) I.quiet U
def lD(te:TE):TS:=λD σ H=>te σ H D.rt
def ze(S:PE X e te):PS X (.Return ↑e pos) (lD te):=by
 intro pins s σ H D I h;exact wpAny_Return_some (aW (S pins s σ H _ I h) λv s1 ⟨x,H1,I1,r1,q1⟩=>⟨x,σ,H1,I1,r1,q1⟩)
def lE(c:TT)(t u:TS):TS:=λD σ H=>c σ H λb H1=>if b=true then t D σ H1 else u D σ H1
variable{a:Expr}{c:Value}
def vJ{c:Expr}{a b:List Stmt}{S:TT}(e:PT X c S)(f:e_ X a t)(g:e_ X b u):PS X (.If c a b pos) (lE S t u):=by
 intro pins s σ H D I h;refine wpAny_If (aW (e pins s σ H _ I h) λd U i=>?_);obtain⟨H1,V,Y⟩:=i;cases d with
 |true=>exact f pins U σ H1 D V Y |false=>exact g pins U σ H1 D V Y
def vK:TS:=λ_ _ _=>False
def vL:PS X st vK:=λ_ _ _ _ _ _ h=>h.elim
abbrev TG:=V->St->Hp->(St->Hp->Prop)->Prop
abbrev iB:=fe->St->Hp->(St->Hp->Prop)->Prop
def PG(X:Cx)(D:Expr)(t:TG):Prop :=
 ∀(pins:e9) (s:Shared) (σ:St) (H:Hp) (v:V) (u:Value) (Q:St->Hp->Prop),Inv X pins σ H s->RelV v u->t v σ H Q ->
  wpAny (model X.prog X.w) X.A (assign D X.env u) (λ_ s'=>∃I H',Inv X pins I H' s'/\Q I H') X.xe s
def iC(X:Cx)(ts:er)(t:iB):Prop :=
 ∀(pins:e9) (s:Shared) (σ:St) (H:Hp) (vs:fe) (us:d5) (Q:St->Hp->Prop),Inv X pins σ H s->aL vs us->t vs σ H Q ->
  wpAny (model X.prog X.w) X.A (assignInOrder ((assignEach ts X.env).map (·.2)) us) (λ_ s'=>∃D H',Inv X pins D H' s'/\Q D H') X.xe s
abbrev gF:=V->V->V->Hp->(Hp->Prop)->Prop
def iM(X:Cx)(t:gF):Prop :=
 ∀(pins:e9) (s:Shared) (σ:St) (H:Hp) (o i v:V) (D I u:Value) (Q:Hp->Prop),Inv X pins σ H s->RelV o D->RelV i I->RelV v u->t o i v H Q ->
  wpAny (model X.prog X.w) X.A (setItem D I u) (λ_ s'=>∃H',Inv X pins σ H' s'/\Q H') X.xe s
abbrev jB:=V->V->Hp->VK->Prop
def kM(X:Cx)(op:Operator)(t:jB):Prop :=
 ∀(pins:e9) (s:Shared) (σ:St) (H:Hp) (x y:V) (v u:Value) (Q:VK),Inv X pins σ H s->RelV x v->RelV y u->t x y H Q ->
  wpAny (model X.prog X.w) X.A (inplaceOp op v u) (EP X pins σ Q) X.xe s
def ki(i:Nat):TG:=λv σ H Q=>Q (σ.set i ↑v) H
def zw(D:X.N.Nodup)(hi:X.N[i]?=↑x)(S:Loc X.env.scope x)(U:X.fn x=true\/X.env.scope.names.lookup x=some .local:=by first |exact .inl rfl |exact .inr rfl |assumption):PG X (.Name x pos) (ki i):=by
 intro pins s σ H v u Q I r h;exact wpAny_assign_Name (l0 I D hi S r (λs' V=>⟨_,H,V,h⟩) U)
def jJ:iB:=λvs σ H Q=>vs=[]/\Q σ H
def pa(t:TG)(u:iB):iB:=λvs σ H Q=>∃v r,vs=v::r/\t v σ H λD H'=>u r D H' Q
def vM:iC X [] jJ:=by
 intro pins s σ H vs us Q I r h;obtain⟨e,h⟩:=h;subst e;cases r;exact assignInOrder_nil ⟨σ,H,I,h⟩
variable{u:Value}{t:TA}{es:er}
def vN{t:TG}{u:iB}(h1:PG X e t)(h2:iC X es u)(S:‹(assignEach (e::es) X.env).map (·.2)=assign e X.env::(assignEach es X.env).map (·.2)›):iC X (e::es) (pa t u):=by
 intro pins s σ H vs us Q I r h;obtain⟨v,c,U,h⟩:=h;subst U;cases r with
 |cons r rr =>
   rw[S];refine assignInOrder_cons (aW (h1 pins s σ H _ _ _ I r h) λ_ V Y=>?_);obtain⟨D,H1,a,b⟩:=Y;exact h2 pins V D H1 _ _ Q a rr b
def lF(K:e5)(n:Nat)(t:iB):TG:=λv σ H Q=>∃a xs,v=.ref a/\dA K H a xs/\xs.length=n/\t xs σ H Q
variable{k n:Nat}
def vO{t:iB}(V:X.calm=true)(h:iC X es t)(Y:‹(assignEach es X.env).length=n›)(D:‹(assignEach es X.env).findIdx? (·.1)=none›):PG X (.Tuple es k pos) (lF X.K n t):=by
 intro pins s σ H v u Q I r S;obtain⟨a,xs,c,d,f,S⟩:=S;subst c;cases r;obtain⟨its,U,g,l⟩:=I.tuple d;refine assign_Tuple_tuple (I.ok.hd V) g (by simp[Y,<-f,U.length]) D λh' i=>?_;have j:Inv X pins σ H { s with heap:=h' }:=I.kept (t':=s.toks) λb o e=>i b o (bo (bc e)) e;exact h pins _ σ H xs _ Q j (by simpa using U) S
def lG(to ti:TE)(t:gF):TG:=λv σ H Q=>to σ H λo H1=>ti σ H1 λi H2=>t o i v H2 λD=>Q σ D
variable{to ti:TE}
def vP{o i:Expr}{t:gF}(V:PE X o to)(hi:PE X i ti)(Y:iM X t)(a:∀v,assign (.Subscript o i pos) X.env v=(do
   let D <-holding [v] (eval o X.env);let S <-holding [v,D] (eval i X.env)
   standAt pos
   holding [v,D,S] (setItem D S v)
   release [v,D,S] []):=by intro _;rfl):PG X (.Subscript o i pos) (lG to ti t):=by
 intro pins s σ H v u Q I r h;rw[a];refine av (gi (aW (V pins s σ H _ I h) λD b U=>?_));obtain⟨x,H1,c,d,e⟩:=U;refine av (gi (aW (hi pins b σ H1 _ c e) λS s2 U=>?_));obtain⟨y,H2,f,g,j⟩:=U;refine av (wpAny_standAt (av (gi (aW (Y pins s2 σ H2 x y v D S u _ f d g r j) λ_ n U=>?_))));obtain⟨k,l,m⟩:=U;exact wpAny_release ⟨σ,k,l,m⟩
def eD(te:TE)(g:TG):TS:=λD σ H=>te σ H λx H1=>g x σ H1 D.nx
variable{tg:Expr}{g:TG}
def vQ(S:PE X e te)(U:PG X tg g)(V:‹swapsWithSole [tg] e pos.line X.env=pure false›)(Y:‹swappedStores [tg] e X.env=pure none›)(h1:‹(assignEach [tg] X.env).map (·.2)=[assign tg X.env]›):PS X (.Assign [tg] e pos) (eD te g):=by
 intro pins s σ H D I h;refine wpAny_Assign_stores (aW (S pins s σ H _ I h) λv a b=>?_) V Y;obtain⟨x,H1,c,d,f⟩:=b;rw[h1];exact aW (U pins a σ H1 x v _ c d f) λ_ s2 q=>q
variable{pos':Pos}
def zd(S:X.N.Nodup)(hi:X.N[i]?=↑x)(U:Loc X.env.scope x)(V:PE X e te)(Y:‹swapsWith e ↑(.Name x pos') pos.line X.env=pure false›)(a:X.fn x=true\/X.env.scope.names.lookup x=some .local:=by first |exact .inl rfl |exact .inr rfl |assumption) :
  PS X (.Assign [.Name x pos'] e pos) (eD te (ki i)):=by
 intro pins s σ H D I h;refine wpAny_Assign_Name (aW (V pins s σ H _ I h) λv j b=>?_) Y;obtain⟨y,H1,c,d,f⟩:=b;exact l0 c S hi U d (λs2 g=>⟨_,H1,g,f⟩) a
def jK(i:Nat)(te:TE)(ti:jB):TS:=λD σ H=>∃x,σ[i]?=↑↑x/\te σ H λy H1=>ti x y H1 λz H2=>D.nx (σ.set i ↑z) H2
variable{op:Operator}
def vR{ti:jB}(a:X.N.Nodup)(hi:X.N[i]?=↑x)(U:Loc X.env.scope x)(b:PE X e te)(d:kM X op ti)(f:X.fn x=true\/X.env.scope.names.lookup x=some .local:=by first |exact .inl rfl |exact .inr rfl |assumption) :
  PS X (.AugAssign (.Name x pos') op e pos) (jK i te ti):=by
 intro pins s σ H D I h;obtain⟨v,g,h⟩:=h;obtain⟨m,j,n⟩:=I.loc;have V:iL X.env.scope x:=by rcases U with k |k;exact .inl k;exact .inr (.inl k)
 obtain⟨u,r,l⟩:=n i x v hi g V;refine wpAny_AugAssign_Name ?_;have go:wpAny (model X.prog X.w) X.A (eval e X.env) (λw s₂=>wpAny (model X.prog X.w) X.A (inplaceOp op u w) (λr S=>wpAny (model X.prog X.w) X.A (storeName X.env x r) (λ_=>SP X pins D .next) X.xe S) X.xe s₂) X.xe s:=by
  refine aW (b pins s σ H _ I h) λw o Y=>?_;obtain⟨y,H1,p,q,t⟩:=Y;refine aW (d pins o σ H1 v y u w _ p r q t) λz s2 Y=>?_;obtain⟨J,H2,B,C,E⟩:=Y;exact l0 B a hi U C (λK F=>⟨_,H2,F,E⟩) f
 rcases l with⟨hk,G⟩ | ⟨hk,c,hc,hcell⟩
 ·exact wpAny_loadName_local I.ok.kind hk j G go
 ·rcases hk with hk |hk
  ·exact wpAny_loadName_cell I.ok.kind hk hc hcell go
  ·rcases U with k |k
   ·have:X.env.scope.names.lookup x=some .free:=hk
    rw[k] at this;cases this
   ·have:X.env.scope.names.lookup x=some .free:=hk
    rw[k] at this;cases this
def pb(to ti te:TE)(I:V->V->Hp->VK->Prop)(U:jB)(S:gF):TS:=λD σ H=>to σ H λo H1=>ti σ H1 λi H2=>I o i H2 λx Y=>te σ Y λy a=>U x y a λz b=>S o i z b λc=>D.nx σ c
def jL(X:Cx)(t:V->V->Hp->VK->Prop):Prop :=
 ∀(pins:e9) (s:Shared) (σ:St) (H:Hp) (o i:V) (D I:Value) (Q:VK),Inv X pins σ H s->RelV o D->RelV i I->t o i H Q ->
  wpAny (model X.prog X.w) X.A (getItem D I) (EP X pins σ Q) X.xe s
variable{i:Int}
def pc{o i:Expr}{U:V->V->Hp->VK->Prop}{c:jB}{Y:gF}{d:Pos}(m:PE X o to)(hi:PE X i ti)(n:jL X U)(p:PE X e te)(q:kM X op c)(r:iM X Y)(t:∀a b new,augStore i a b new=(do holding [new,a,b] (setItem a b new);release [new,a,b] [];pure .next):=by intros;rfl):PS X (.AugAssign (.Subscript o i d) op e pos) (pb to ti te U c Y):=by
 intro pins s σ H D I h;refine wpAny_AugAssign_SubscriptAny (aW (m pins s σ H _ I h) λa u S=>?_) t;obtain⟨g,H1,w,j,x⟩:=S;refine aW (hi pins u σ H1 _ w x) λb s2 S=>?_;obtain⟨k,H2,y,l,z⟩:=S;refine aW (n pins s2 σ H2 g k a b _ y j l z) λf A S=>?_;obtain⟨B,C,E,r3,F⟩:=S;refine aW (p pins A σ C _ E F) λv G S=>?_;obtain⟨J,K,L,M,N⟩:=S;refine aW (q pins G σ K B J f v _ L r3 M N) λnew O S=>?_;obtain⟨P,Q,R,T,W⟩:=S;exact aW (r pins O σ Q g k P a b new _ R j l T W) λ_ s6 ⟨H6,I6,q6⟩=>⟨σ,H6,I6,q6⟩
def kN(f:Int->Int->Int):jB:=λx y H Q=>∃i j,x=.int i/\y=.int j/\Q ↥(f i j) H
def pu:kM X .Add (kN λi j=>i+j):=by
 intro pins s σ H x y v u Q I D S h;obtain⟨i,j,U,V,q⟩:=h;subst U;subst V;obtain⟨t,rfl⟩:=D;obtain⟨t',rfl⟩:=S;exact iadd_int ⟨.int _,H,I.tok _,⟨_,rfl⟩,q⟩
def vS:kM X .Sub (kN λi j=>i-j):=by
 intro pins s σ H x y v u Q I D S h;obtain⟨i,j,U,V,q⟩:=h;subst U;subst V;obtain⟨t,rfl⟩:=D;obtain⟨t',rfl⟩:=S;exact isub_int ⟨.int _,H,I.tok _,⟨_,rfl⟩,q⟩
structure It where
 go:Nat->Hp->Prop
 yld:Nat->Hp->V->Hp->Prop
 stop:Nat->Hp->Prop
def cG(X:Cx)(pins:e9)(H:Hp)(b:Addr):Prop :=
 H b=none/\b≠X.env.locals/\b∉X.fs/\(b∈X.ex\/X.s₀.heap.objs.size<=b)/\(∀x c,X.env.cells.lookup x=↑c->c≠b)/\∀p∈X.pn++pins,p.1≠b
def Inv.fpOk{b:Addr}(I:Inv X pins σ H s)(D:s.heap.objs.size<=b)(S:H' b=none):cG X pins H' b:=by
 refine⟨S,ji (az I.lt D),I.nofs D,.inr (b5 I.sz D),λx c e z=>?_,λp U z=>?_⟩
 ·obtain⟨v,q⟩:=I.cell x c e
  exact absurd (az q.lt (by rw[z];exact D)) (dy _)
 ·exact absurd (az (bc (I.pin p U).1) (by rw[z];exact D)) (dy _)
structure pz (Cm:Cx->Prop) (P:Program) (w:World) (K:e5) (tg:Expr) (J:It) (fp:ed) (it:Addr) (tn:Nat->Heap->Prop):Prop where
 mem:it∈fp
 obj:∀i h,tn i h->∀b∈fp,∃o,h.get? b=↑o/\∀v,o.data≠.cell v
 keep:∀i h h',tn i h->(∀b∈fp,∀o,h.get? b=↑o->h'.get? b=↑o)->tn i h'
 item:∀(X:Cx),X.prog=P->X.w=w->X.K=K->Cm X->∀(i:Nat) (pins:e9) (s:Shared) (σ:St) (H:Hp) (E:Value->Shared->Prop),Inv X pins σ H s->(∀b∈fp,cG X pins H b)->tn i s.heap->J.go i H ->
  wpAny (model P w) X.A (pyNext (.ref it)) (λr s1=>∃u,r=↑u /\
   wpAny (model P w) X.A (letOwnedTupleGo tg (.ref it) u) (λ_ s2=>∃x H',Inv X pins σ H' s2/\RelV x u/\J.yld i H x H'/\tn (i+1) s2.heap/\∀b∈fp,H' b=none) E s1) E s
 done:∀(X:Cx),X.prog=P->X.w=w->X.K=K->Cm X->∀(i:Nat) (pins:e9) (s:Shared) (σ:St) (H:Hp) (E:Value->Shared->Prop),Inv X pins σ H s->(∀b∈fp,cG X pins H b)->tn i s.heap->J.stop i H ->
  wpAny (model P w) X.A (pyNext (.ref it)) (λr s1=>r=none/\Inv X pins σ H s1) E s
 self:∀(A:Around) (i:Nat) (s:Shared) (Q:Value->Shared->Prop) (E:Value->Shared->Prop),tn i s.heap->Q (.ref it) s->wpAny (model P w) A (pyIter (.ref it)) Q E s
abbrev gG:=pz λX=>X.calm=true
abbrev TI:=St->Hp->(It->Hp->Prop)->Prop
def jM(Cm:Cx->Prop)(X:Cx)(pins:e9)(σ:St)(tg:Expr)(R:It->Hp->Prop)(D:Value)(s2:Shared):Prop :=
 ∃(it:Addr) (fp:ed) (I:Nat->Heap->Prop) (J:It) (H':Hp),D=.ref it/\Inv X pins σ H' s2/\pz Cm X.prog X.w X.K tg J fp it I/\I 0 s2.heap/\(∀b∈fp,cG X pins H' b)/\R J H'
def gX(Cm:Cx->Prop)(X:Cx)(tg iter:Expr)(wi:TI):Prop :=
 ∀(pins:e9) (s:Shared) (σ:St) (H:Hp) (R:It->Hp->Prop),Inv X pins σ H s->wi σ H R ->
  wpAny (model X.prog X.w) X.A (eval iter X.env) (λv D=>wpAny (model X.prog X.w) X.A (pyIter v) (jM Cm X pins σ tg R) X.xe D) X.xe s
abbrev PI:=gX λX=>X.calm=true
variable{vs:fe}
def u9{n:String}{vs:fc}{Q:Unit->Shared->Prop}(I:s.heap.get? it=↑o)(S:o.cls=.type n)(hd:o.data=.fields vs)(U:["enumerate", "zip", "dict_itemiterator", "dict_reverseitemiterator", "odict_iterator", "itertools.zip_longest", "itertools.pairwise"].contains n=false)(D:Q () s):wpAny M A (letOwnedTupleGo tg (.ref it) u) Q E s:=by
 unfold letOwnedTupleGo;cases tg <;> first
  |exact cq D
  | (cases u <;> first
      |exact cq D
      | (refine av (wpAny_load I ?_)
         rw[S,hd];show wpAny M A (if (["enumerate", "zip", "dict_itemiterator", "dict_reverseitemiterator", "odict_iterator", "itertools.zip_longest", "itertools.pairwise"].contains n && vs[0]?==↑(rawInt _))=true then _ else _) Q E s;rw[b3 (by intro h;rw[U,Bool.false_and] at h;cases h)];exact cq D))
def lH(K:e5)(a:Addr):It :=
 ⟨λi H=>∃xs x,cK K H a xs/\xs[i]?=↑x,λi H x H'=>H'=H/\∀xs,cK K H a xs->xs[i]?=↑x,λi H=>∃xs,cK K H a xs/\xs.length<=i⟩
def lI(K:e5)(a:Addr):It :=
 ⟨λi H=>∃xs x,dA K H a xs/\xs[i]?=↑x,λi H x H'=>H'=H/\∀xs,dA K H a xs->xs[i]?=↑x,λi H=>∃xs,dA K H a xs/\xs.length<=i⟩
def iE(lo:Int)(n:Nat):It:=⟨λi _=>i<n,λi H x H'=>H'=H/\x=.int (lo+i),λi _=>n<=i⟩
def vT(a it:Addr):gG P w K tg (lH K a) [it] it (λi h=>h.IsListIter it a i) where
 mem:=by simp
 obj:=λi h st b D=>by
  have e:b=it:=by simpa using D
  subst e;obtain⟨o,e,c,d⟩:=st;exact⟨o,e,λv z=>by rw[d] at z;cases z⟩
 keep:=λi h h' st k=>st.at λo e=>k it ⋯ o e
 item:=by
  intro X hP Y f y i pins s σ H E I U st g;subst hP Y f;obtain⟨xs,x,V,j⟩:=g;obtain⟨its,l,p,A⟩:=I.list V;obtain⟨u,B,C⟩:=l.get j;obtain⟨m,n,F,q,r,t⟩:=U it ⋯;refine wpAny_pyNext_list_item st p.isList (x:=u) (by simpa using B) λh' S G=>?_;have J:Inv X pins σ H { s with heap:=h' }:=I.turned (t':=s.toks) (λb o D e=>(G.2 b D).trans e) m n q r t;obtain⟨o,e,c,d⟩:=id S;exact⟨u,rfl,u9 (s:={ s with heap:=h' }) e c d (by decide) ⟨x,H,J,C,⟨rfl,λys L=>by rw[I.list_inj L V];exact j⟩,S,λb D=>(U b D).1⟩⟩
 done:=by
  intro X hP Y f y i pins s σ H E I U st g;subst hP Y f;obtain⟨xs,V,j⟩:=g;obtain⟨its,l,p,A⟩:=I.list V;obtain⟨m,n,F,q,r,t⟩:=U it ⋯;have N:=l.length;exact wpAny_pyNext_list_end (I.ok.hd y) st p.isList (by simp;omega) λh' M=>⟨rfl,I.turned (t':=s.toks) (λb o D e=>M b o D e) m n q r t⟩
 self:=λ_ _ _ _ _ st h=>wpAny_pyIter_listiter st h
def vU(a it:Addr):gG P w K tg (lI K a) [it] it (λi h=>h.IsTupleIter it a i) where
 mem:=by simp
 obj:=λi h st b D=>by
  have e:b=it:=by simpa using D
  subst e;obtain⟨o,e,c,d⟩:=st;exact⟨o,e,λv z=>by rw[d] at z;cases z⟩
 keep:=λi h h' st k=>st.at λo e=>k it ⋯ o e
 item:=by
  intro X hP Y f y i pins s σ H E I U st g;subst hP Y f;obtain⟨xs,x,V,j⟩:=g;obtain⟨its,l,p,A⟩:=I.tuple V;obtain⟨u,B,C⟩:=l.get j;obtain⟨m,n,F,q,r,t⟩:=U it ⋯;refine wpAny_pyNext_tuple_item st (show s.heap.IsTuple a its.toArray from p) (x:=u) (by simpa using B) λh' S G=>?_;have J:Inv X pins σ H { s with heap:=h' }:=I.turned (t':=s.toks) (λb o D e=>(G.2 b D).trans e) m n q r t;obtain⟨o,e,c,d⟩:=id S;exact⟨u,rfl,u9 (s:={ s with heap:=h' }) e c d (by decide) ⟨x,H,J,C,⟨rfl,λys L=>by rw[I.tuple_inj L V];exact j⟩,S,λb D=>(U b D).1⟩⟩
 done:=by
  intro X hP Y f y i pins s σ H E I U st g;subst hP Y f;obtain⟨xs,V,j⟩:=g;obtain⟨its,l,p,A⟩:=I.tuple V;obtain⟨m,n,F,q,r,t⟩:=U it ⋯;have N:=l.length;exact wpAny_pyNext_tuple_end (I.ok.hd y) st (show s.heap.IsTuple a its.toArray from p) (by simp;omega) λh' M=>⟨rfl,I.turned (t':=s.toks) (λb o D e=>M b o D e) m n q r t⟩
 self:=λ_ _ _ _ _ st h=>wpAny_pyIter_tupleiter st h
def wp(it:Addr)(lo:Int)(n:Nat):gG P w K tg (iE lo n) [it] it (λi h=>IsRangeIter h it (lo+(i:Nat)*1) ((n:Int)-(i:Nat)) 1) where
 mem:=by simp
 obj:=λi h st b D=>by
  have e:b=it:=by simpa using D
  subst e;exact⟨_,st,λv z=>by
   have m:Data.fields _=Data.cell v:=z;cases m⟩
 keep:=λi h h' st k=>k it ⋯ _ st
 item:=by
  intro X hP V Y a i pins s σ H E I U st c;subst hP V Y;obtain⟨d,f,p,g,j,l⟩:=U it ⋯;have W:=Walks.range (prog:=X.prog) (w:=X.w) (I.ok.hd a) it lo 1 n;refine W.item i s _ _ c st λv h' tk q S r=>?_;obtain⟨t,rfl⟩:=q;have u:Inv X pins σ H { s with heap:=h',toks:=tk }:=I.turned (λb o D e=>r b o (by simpa using D) e) d f g j l;refine⟨_,rfl,u9 (s:={ s with heap:=h',toks:=tk }) (n:="range_iterator") S rfl rfl (by decide) ⟨.int (lo+i),H,u,⟨t,?_⟩,⟨rfl,rfl⟩,S,λb D=>(U b D).1⟩⟩;rw[Int.mul_one]
 done:=by
  intro X hP V Y a i pins s σ H E I U st c;subst hP V Y;obtain⟨d,f,p,g,j,l⟩:=U it ⋯;exact wpAny_pyNext_range_end (I.ok.hd a) st (by have:n<=i:=c;omega) λh' x=>⟨rfl,I.turned (t':=s.toks) (λb o D e=>x b o D e) d f g j l⟩
 self:=λ_ _ _ _ _ st h=>wpAny_pyIter_rangeiter st h
def vV(K:e5)(tl:TE):TI:=λσ H R=>tl σ H λx H1=>∃a,x=.ref a/\(∃xs,cK K H1 a xs)/\R (lH K a) H1
def lJ(K:e5)(tl:TE):TI:=λσ H R=>tl σ H λx H1=>∃a,x=.ref a/\(∃xs,dA K H1 a xs)/\R (lI K a) H1
variable{l:Expr}{tl:TE}
def py(U:PE X l tl):PI X tg l (vV X.K tl):=by
 intro pins s σ H R I h;refine aW (U pins s σ H _ I h) λv D V=>?_;obtain⟨x,H1,S,Y,c⟩:=V;obtain⟨a,e,⟨xs,d⟩,q⟩:=c;subst e;cases Y;obtain⟨its,g,p,i⟩:=S.list d;refine wpAny_pyIter_list p.isList ?_;refine⟨D.heap.objs.size,[D.heap.objs.size],_,_,H1,rfl,S.kept (t':=D.toks) λb o e=>aj _ e,vT a _,⟨_,b9 _ rfl,rfl,rfl⟩,λb f=>?_,q⟩;have e:b=D.heap.objs.size:=by simpa using f
 subst e;exact S.fpOk (bn _) (S.hok.fresh (bn _))
def vW(U:PE X l tl):PI X tg l (lJ X.K tl):=by
 intro pins s σ H R I h;refine aW (U pins s σ H _ I h) λv D V=>?_;obtain⟨x,H1,S,Y,c⟩:=V;obtain⟨a,e,⟨xs,d⟩,q⟩:=c;subst e;cases Y;obtain⟨its,g,p,i⟩:=S.tuple d;refine wpAny_pyIter_tuple (show D.heap.IsTuple a its.toArray from p) ?_;refine⟨D.heap.objs.size,[D.heap.objs.size],_,_,H1,rfl,S.kept (t':=D.toks) λb o e=>aj _ e,vU a _,⟨_,b9 _ rfl,rfl,rfl⟩,λb f=>?_,q⟩;have e:b=D.heap.objs.size:=by simpa using f
 subst e;exact S.fpOk (bn _) (S.hok.fresh (bn _))
variable{v:Value}{Cm:Cx->Prop}
def vX(hT:∀(it:Addr) (lo:Int) (n:Nat),pz Cm X.prog X.w X.K tg (iE lo n) [it] it (λi h=>IsRangeIter h it (lo+(i:Nat)*1) ((n:Int)-(i:Nat)) 1)){R:It->Hp->Prop}{lo hi:Int}{t u v:Tok}{tk:Nat}(I:Inv X pins σ H s)(h1:-(2 ^ 62)<=lo)(h2:lo<2 ^ 62)(S:-(2 ^ 62)<=hi)(U:hi<2 ^ 62)(q:R (iE lo (hi-lo).toNat) H):wpAny (model X.prog X.w) X.A (pyIter (.ref s.heap.objs.size)) (jM Cm X pins σ tg R) E { s with heap:=s.heap.push { cls:=.type "range",data:=.fields #[.int lo t,.int hi u,.int 1 v] },toks:=tk }:=by
 refine wpAny_pyIter_range (IsRange.new ..) (small_one h1 h2 S U) ?_;have D:Inv X pins σ H { s with heap:=s.heap.push { cls:=.type "range",data:=.fields #[.int lo t,.int hi u,.int 1 v] },toks:=tk }:=I.kept λb o e=>aj _ e;refine⟨(s.heap.push { cls:=.type "range",data:=.fields #[.int lo t,.int hi u,.int 1 v] }).objs.size,[(s.heap.push { cls:=.type "range",data:=.fields #[.int lo t,.int hi u,.int 1 v] }).objs.size],_,_,H,rfl,
  D.kept (t':=tk) λb o e=>aj _ e,hT _ lo (hi-lo).toNat,?_,λb V=>?_,q⟩
 ·have Y:lo+((0:Nat):Int)*1=lo:=by simp
  have a:(((hi-lo).toNat:Nat):Int)-((0:Nat):Int)=Builtin.Range.rangeSize lo hi 1:=by rw[rangeSize_one];split <;> omega
  show IsRangeIter _ _ (lo+((0:Nat):Int)*1) ((((hi-lo).toNat:Nat):Int)-((0:Nat):Int)) 1;rw[Y,a];exact b9 _ rfl
 ·have e:b=(s.heap.push { cls:=.type "range",data:=.fields #[.int lo t,.int hi u,.int 1 v] }).objs.size:=by simpa using V
  subst e;exact D.fpOk (bn _) (D.hok.fresh (bn _))
def vY(ta:TA):TI:=λσ H R=>ta σ H λvs H1=>∃j:Int,vs=[↥j]/\-(2 ^ 62)<=j/\j<2 ^ 62/\R (iE 0 j.toNat) H1
variable{p:Pos}
def vZ(hT:∀(it:Addr) (lo:Int) (n:Nat),pz Cm X.prog X.w X.K tg (iE lo n) [it] it (λi h=>IsRangeIter h it (lo+(i:Nat)*1) ((n:Int)-(i:Nat)) 1)){ta:TA}(S:Gl X "range")(U:X.mg "range" = none)(V:PA X [a] ta)(Y:‹starEach [a] X.env=[(false,eval a X.env)]›):gX Cm X tg (.Call (.Name "range" p) [a] [] pos) (vY ta):=by
 intro pins s σ H R I h;refine Call_ (t3 I S U boot_range (ia (aW (V pos pins s σ H _ I h) λus g b=>?_) Y rfl));obtain⟨vs,H1,c,d,D⟩:=b;obtain⟨j,e,D,f,q⟩:=D;subst e;cases d with
 |cons r rr =>
   cases rr;obtain⟨t,rfl⟩:=r;exact call_range_1 (vX hT c (by omega) (by omega) D f (by simpa using q))
def lK(wi:TI)(g:TG)(tb:TS):TS:=λD σ H=>wi σ H λJ H1=>∃W:Nat->Nat->St->Hp->Prop,(∃m,W 0 m σ H1)/\∀i m σ H,W i m σ H ->
 (J.stop i H/\D.nx σ H)\/(J.go i H/\∃N:St->Hp->Prop,(∀I H',N I H'->∃U,U<m/\W (i+1) U I H')/\∀x H',J.yld i H x H'->g x σ H' λS H2=>tb { D with nx:=N,ct:=N,bk:=D.nx } S H2)
def t0(fp:ed)(h:Heap):e9:=fp.filterMap λb=>(h.get? b).map λo=>(b,o)
variable{fp:ed}
def wo{b:Addr}(D:b∈fp)(e:h.get? b=↑o):(b,o)∈t0 fp h:=ko.mpr ⟨b,D,by rw[e];rfl⟩
def v_{p:Addr×Obj}(D:p∈t0 fp h):p.1∈fp/\h.get? p.1=↑p.2:=by
 obtain⟨b,I,e⟩:=ko.mp D;cases q:h.get? b with
 |none=>rw[q] at e;cases e
 |some o =>
   rw[q] at e;have e':(b,o)=p:=bg e;subst e';exact⟨I,q⟩
def Inv.pinned(I:Inv X pins σ H s)(S:∀b∈fp,cG X pins H b)(U:∀b∈fp,∃o,s.heap.get? b=↑o/\∀v,o.data≠.cell v):Inv X (pins++t0 fp s.heap) σ H s :=
 I.pins_of λp V=>(dh.mp V).elim (λz=>I.pin p (bu _ z)) λz=>by
  obtain⟨D,e⟩:=v_ z;obtain⟨Y,a,c,_⟩:=S p.1 D;obtain⟨o,e',d⟩:=U p.1 D;rw[e] at e';cases e';exact⟨e,Y,a,c,d⟩
variable{pl:Sem Bool}
def Inv.unpinned{pl:e9}(I:Inv X (pins++pl) σ H s):Inv X pins σ H s:=I.pins_of λp D=>I.pin p (bu _ (ek _ D))
variable{body:List Stmt}
theorem wa{iter:Expr}{wi:TI}{tb:TS}(p:PassesOwn (model X.prog X.w) X.A X.env X.xe)(G:X.calm=true)(hi:PI X tg iter wi)(Q:PG X tg g)(U:e_ X body tb)(R:∀x,foldedSetIterable iter X.env x=pure x:=by intro _;rfl):PS X (.For tg iter body [] pos) (lK wi g tb):=by
 intro pins s σ H D I h;refine wpAny_For (aW (hi pins s σ H _ I h) λv s1 h1=>aW h1 λZ s2 h2=>?_) R;obtain⟨it,fp,K,J,H2,e,I2,T,y,L,W,⟨m0,w0⟩,turn⟩:=h2;subst e;have V:∀ {H':Hp},(∀b∈fp,H' b=none)->∀b∈fp,cG X pins H' b:=λhn b U=>⟨hn b U,(L b U).2⟩;refine codeAny_forLoop_any (λn s'=>∃i Y H',Inv X pins Y H' s'/\K i s'.heap/\(∀b∈fp,H' b=none)/\W i n Y H') ?_ m0 ⟨0,σ,H2,I2,y,λb U=>(L b U).1,w0⟩;rintro n M ⟨i,σ3,H3,I3,st3,fr3,w3⟩;rcases turn i n σ3 H3 w3 with⟨q,qn⟩ | ⟨go,N,hN,step⟩
 ·refine iu p (aW (T.done X rfl rfl rfl G i pins M σ3 H3 X.xe I3 (V fr3) st3 q) λr s4 k=>?_)
  obtain⟨z,I4⟩:=k;subst z;exact kl ⟨σ3,H3,I4,qn⟩
 ·refine iu p (aW (T.item X rfl rfl rfl G i pins M σ3 H3 X.xe I3 (V fr3) st3 go) λr s4 k=>?_)
  obtain⟨u,z,h4⟩:=k;subst z;refine iu p (aW h4 λ_ O k=>?_);obtain⟨x,P,I5,r5,y5,l,B⟩:=k;have C:=I5.pinned (V B) (T.obj _ _ l);refine iu p (aW (Q _ O σ3 P x u _ C r5 (step x P y5)) λ_ s6 k=>?_);obtain⟨E,H6,I6,q6⟩:=k;refine iu p (aW (U _ s6 E H6 _ I6 q6) λf F j=>?_);have again:∀ {S:St} {a:Hp},Inv X (pins++t0 fp O.heap) S a F->N S a->∃m,m<n/\∃i Y H',Inv X pins Y H' F/\K i F.heap/\(∀b∈fp,H' b=none)/\W i m Y H':=λ{S a} c t=>by
   obtain⟨m',hm,w7⟩:=hN S a t;refine⟨m',hm,i+1,S,a,c.unpinned,T.keep _ _ _ l λb U o e=>(c.pin (b,o) (bu _ (bu _ (wo U e)))).1,λb U=>?_,w7⟩;obtain⟨o,e,d⟩:=T.obj _ _ l b U;exact(c.pin (b,o) (bu _ (bu _ (wo U e)))).2.1
  cases f with
  |next=>obtain⟨S,a,c,t⟩:=j;exact again c t |cont=>obtain⟨S,a,c,t⟩:=j;exact again c t |brk=>obtain⟨S,a,c,j⟩:=j;exact⟨S,a,c.unpinned,j⟩ |ret v=>obtain⟨x7,S,a,c,r7,j⟩:=j;exact⟨x7,S,a,c.unpinned,r7,j⟩
abbrev R2:=V->V->Hp->VK->Prop
def eN(X:Cx)(f:Value->Value->Sem Value)(r:R2):Prop :=
 ∀(pins:e9) (s:Shared) (σ:St) (H:Hp) (x y:V) (v u:Value) (Q:VK),Inv X pins σ H s->RelV x v->RelV y u->r x y H Q ->
  wpAny (model X.prog X.w) X.A (f v u) (EP X pins σ Q) X.xe s
def lL(X:Cx)(f:Value->Sem Value)(r:V->Hp->VK->Prop):Prop :=
 ∀(pins:e9) (s:Shared) (σ:St) (H:Hp) (x:V) (v:Value) (Q:VK),Inv X pins σ H s->RelV x v->r x H Q ->
  wpAny (model X.prog X.w) X.A (f v) (EP X pins σ Q) X.xe s
def l4(X:Cx)(f:Value)(r:fe->Hp->VK->Prop):Prop :=
 ∀(pins:e9) (s:Shared) (σ:St) (H:Hp) (xs:fe) (us:d5) (Q:VK),Inv X pins σ H s->aL xs us->r xs H Q ->
  wpAny (model X.prog X.w) X.A (call f us) (EP X pins σ Q) X.xe s
def kO(r:R2)(ta tb:TE):TE:=λσ H Q=>ta σ H λx H1=>tb σ H1 λy H2=>r x y H2 Q
def wh(r:V->Hp->VK->Prop)(ta:TE):TE:=λσ H Q=>ta σ H λx H1=>r x H1 Q
def rI(C:Int->Int->Prop)(g:Int->Int->V):R2:=λx y H Q=>∃i j,x=.int i/\y=.int j/\C i j/\Q (g i j) H
def fU(g:Int->Int->V):R2:=λx y H Q=>∃i j,x=.int i/\y=.int j/\Q (g i j) H
def rU(g:Int->V):V->Hp->VK->Prop:=λx H Q=>∃i,x=.int i/\Q (g i) H
variable{f:Value->Value->Sem Value}
def jN(U:PE X a ta)(Y:PE X b tb){R:V->V->Hp->Prop}(I:Inv X pins σ H s)(h:ta σ H λx H1=>tb σ H1 λy H2=>R x y H2)(c:∀v u s2 x y H2,Inv X pins σ H2 s2->RelV x v->RelV y u->R x y H2->wpAny (model X.prog X.w) X.A (f v u) Q X.xe s2) :
  wpAny (model X.prog X.w) X.A (eval a X.env) (λv D=>wpAny (model X.prog X.w) X.A (eval b X.env) (λu s₂=>wpAny (model X.prog X.w) X.A (f v u) Q X.xe s₂) X.xe D) X.xe s:=by
 refine aW (U pins s σ H _ I h) λv d S=>?_;obtain⟨x,H1,e,g,i⟩:=S;refine aW (Y pins d σ H1 _ e i) λu s2 S=>?_;obtain⟨y,H2,j,k,l⟩:=S;exact c v u s2 x y H2 j g k l
variable{r:R2}
def p3(D:eN X (binaryOp op) r)(S:PE X a ta)(U:PE X b tb):PE X (.BinOp a op b pos) (kO r ta tb):=by
 intro pins s σ H Q I h;exact wpAny_BinOp (jN S U I h λv u s2 x y H2 V Y c q=>D pins s2 σ H2 x y v u Q V Y c q)
variable{op:CmpOp}
def wk{op:UnaryOp}{r:V->Hp->VK->Prop}(D:lL X (unaryOp op) r)(S:PE X a ta):PE X (.UnaryOp op a pos) (wh r ta):=by
 intro pins s σ H Q I h;exact UnaryOp_ (aW (S pins s σ H _ I h) λv s1 ⟨x,H1,I1,r1,q1⟩=>D pins s1 σ H1 x v Q I1 r1 q1)
variable{g:Int->Int->Int}{C:Addr}
def lM{C:Int->Int->Prop}(rule:∀(i j:Int) (t u:Tok) (s:Shared) (Q:Value->Shared->Prop) (E:Value->Shared->Prop),C i j->Q (.int (g i j) s.toks) { s with toks:=s.toks+1 }->wpAny (model X.prog X.w) X.A (f (.int i t) (.int j u)) Q E s) :
  eN X f (rI C λi j=>.int (g i j)):=by
 intro pins s σ H x y v u Q I D S h;obtain⟨i,j,rfl,rfl,U,q⟩:=h;obtain⟨t,rfl⟩:=D;obtain⟨t',rfl⟩:=S;exact rule i j t t' s _ _ U ⟨.int (g i j),H,I.tok _,⟨_,rfl⟩,q⟩
def jO(rule:∀(i j:Int) (t u:Tok) (s:Shared) (Q:Value->Shared->Prop) (E:Value->Shared->Prop),Q (.int (g i j) s.toks) { s with toks:=s.toks+1 }->wpAny (model X.prog X.w) X.A (f (.int i t) (.int j u)) Q E s) :
  eN X f (fU λi j=>.int (g i j)):=by
 intro pins s σ H x y v u Q I D S h;obtain⟨i,j,rfl,rfl,q⟩:=h;obtain⟨t,rfl⟩:=D;obtain⟨t',rfl⟩:=S;exact rule i j t t' s _ _ ⟨.int (g i j),H,I.tok _,⟨_,rfl⟩,q⟩
def iN{g:Int->Int->Bool}(rule:∀(i j:Int) (t u:Tok) (s:Shared) (Q:Value->Shared->Prop) (E:Value->Shared->Prop),Q (.bool (g i j)) s->wpAny (model X.prog X.w) X.A (f (.int i t) (.int j u)) Q E s) :
  eN X f (fU λi j=>.bl (g i j)):=by
 intro pins s σ H x y v u Q I D S h;obtain⟨i,j,rfl,rfl,q⟩:=h;obtain⟨t,rfl⟩:=D;obtain⟨t',rfl⟩:=S;exact rule i j t t' s _ _ ⟨.bl (g i j),H,I,rfl,q⟩
def jP(i j:Int):Prop:=0<j/\j<1073741824
def gY(i j:Int):Prop:=(-(2 ^ 64)<i/\i<2 ^ 64)\/(-(2 ^ 64)<j/\j<2 ^ 64)
def gY.ok(h:gY i j):IntMulOk i j:=by
 rcases h with⟨h1,h2⟩ | ⟨h1,h2⟩
 ·exact .of_left (intBits_le_64 h1 h2)
 ·exact .of_right (intBits_le_64 h1 h2)
def wA:eN X (binaryOp .Add) (fU λi j=>.int (i+j)):=jO λ_ _ _ _ _ _ _ q=>add_int q
def wB:eN X (binaryOp .Sub) (fU λi j=>.int (i-j)):=jO λ_ _ _ _ _ _ _ q=>sub_int q
def wC:eN X (binaryOp .Mult) (rI gY λi j=>.int (i*j)):=lM λ_ _ _ _ _ _ _ D q=>mul_int q D.ok
def wE:eN X (binaryOp .FloorDiv) (rI jP λi j=>.int (i / j)):=lM λi j _ _ _ _ _ D q=>by
 have h1:(0:Int)<j:=D.1;have h2:j<1073741824:=D.2;exact floordiv_int (by omega) (by rw[Int.fdiv_eq_ediv_of_nonneg i (by omega)];exact q) (.inl (PyProof.noPylong_small (by omega)))
def wF:eN X (binaryOp .Mod) (rI (λ_ j=>0<j) λi j=>.int (i % j)):=lM λi j _ _ _ _ _ D q=>by
 have h1:(0:Int)<j:=D;exact mod_int' (by omega) (by rw[Int.fmod_eq_emod_of_nonneg i (by omega)];exact q)
variable{f:Addr}
def wG{f:Value->Sem Value}{g:Int->Int}(rule:∀(i:Int) (t:Tok) (s:Shared) (Q:Value->Shared->Prop) (E:Value->Shared->Prop),Q (.int (g i) s.toks) { s with toks:=s.toks+1 }->wpAny (model X.prog X.w) X.A (f (.int i t)) Q E s) :
  lL X f (rU λi=>.int (g i)):=by
 intro pins s σ H x v Q I D h;obtain⟨i,rfl,q⟩:=h;obtain⟨t,rfl⟩:=D;exact rule i t s _ _ ⟨.int (g i),H,I.tok _,⟨_,rfl⟩,q⟩
def wH:lL X (unaryOp .USub) (rU λi=>.int (-i)):=wG λ_ _ _ _ _ q=>neg_int q
def jQ:V->V->Bool
 | .non,.non=>true | .non,.int _=>true | .int _,.non=>true | .non,.bl _=>true | .bl _,.non=>true | .non,.str _=>true | .str _,.non=>true | .int _,.int _=>true | .bl _,.bl _=>true | .str _,.str _=>true | .byt _,.byt _=>true | .int _,.str _=>true | .str _,.int _=>true | .bl _,.str _=>true | .str _,.bl _=>true |_,_=>false
def p4:R2:=λx y H Q=>jQ x y=true/\Q (.bl (decide (x=y))) H
def p5:R2:=λx y H Q=>jQ x y=true/\Q (.bl (!decide (x=y))) H
def p6:decide (V.int i=V.int j)=(i==j):=by
 rw[js];simp
def pA{i j:Bool}:decide (V.bl i=V.bl j)=(i==j):=by
 rw[js];simp
def pB{i j:Str}:decide (V.str i=V.str j)=(i==j):=by
 rw[js];simp
def pE{i j:Array UInt8}:decide (V.byt i=V.byt j)=(i.toList==j.toList):=by
 rw[js];cases i;cases j;simp
def iq{Q:VK}{k k':Bool}(I:Inv X pins σ H s)(q:Q (.bl k) H)(e:k=k'):EP X pins σ Q (.bool k') s:=by
 subst e;exact⟨.bl k,H,I,rfl,q⟩
def wI:eN X (compareOp .Eq) p4:=by
 intro pins s σ H x y v u Q I U D h;obtain⟨S,q⟩:=h;cases x with
 |non =>
   cases U;cases y with
   |non=>cases D;exact PySem.EqNone.eq_none_none (iq I q ⋯)
   |bl j=>cases D;exact PySem.EqNone.eq_none_bool (iq I q ⋯)
   |int j=>obtain⟨t',rfl⟩:=D;exact PySem.EqNone.eq_none_int (iq I q ⋯) |str j=>obtain⟨t',rfl⟩:=D;exact PySem.EqNone.eq_none_str (iq I q ⋯) |_=>exact absurd (show false=true from S) b7
 |bl i =>
   cases U;cases y with
   |non=>cases D;exact PySem.EqNone.eq_bool_none (iq I q ⋯)
   |bl j=>cases D;exact eq_bool (iq I q pA)
   |str j=>obtain⟨t',rfl⟩:=D;exact PySem.EqMixed.eq_bool_str (iq I q ⋯) |_=>exact absurd (show false=true from S) b7
 |int i =>
   obtain⟨t,rfl⟩:=U;cases y with
   |non=>cases D;exact PySem.EqNone.eq_int_none (iq I q ⋯)
   |int j=>obtain⟨t',rfl⟩:=D;exact eq_int (iq I q p6) |str j=>obtain⟨t',rfl⟩:=D;exact PySem.EqMixed.eq_int_str (iq I q ⋯) |_=>exact absurd (show false=true from S) b7
 |str i =>
   obtain⟨t,rfl⟩:=U;cases y with
   |non=>cases D;exact PySem.EqNone.eq_str_none (iq I q ⋯)
   |bl j=>cases D;exact PySem.EqMixed.eq_str_bool (iq I q ⋯)
   |int j=>obtain⟨t',rfl⟩:=D;exact PySem.EqMixed.eq_str_int (iq I q ⋯) |str j=>obtain⟨t',rfl⟩:=D;exact eq_str (iq I q pB) |_=>exact absurd (show false=true from S) b7
 |byt i =>
   obtain⟨t,rfl⟩:=U;cases y with
   |byt j=>obtain⟨t',rfl⟩:=D;exact PySem.W.eq_bytes (iq I q pE) |_=>exact absurd (show false=true from S) b7
 |_=>cases y <;> exact absurd (show false=true from S) b7
def wJ:eN X (compareOp .NotEq) p5:=by
 intro pins s σ H x y v u Q I U D h;obtain⟨S,q⟩:=h;cases x with
 |non =>
   cases U;cases y with
   |non=>cases D;exact PySem.EqNone.ne_none_none (iq I q ⋯)
   |bl j=>cases D;exact PySem.EqNone.ne_none_bool (iq I q ⋯)
   |int j=>obtain⟨t',rfl⟩:=D;exact PySem.EqNone.ne_none_int (iq I q ⋯) |str j=>obtain⟨t',rfl⟩:=D;exact PySem.EqNone.ne_none_str (iq I q ⋯) |_=>exact absurd (show false=true from S) b7
 |bl i =>
   cases U;cases y with
   |non=>cases D;exact PySem.EqNone.ne_bool_none (iq I q ⋯)
   |bl j=>cases D;exact ne_bool (iq I q (congrArg not pA))
   |str j=>obtain⟨t',rfl⟩:=D;exact PySem.EqMixed.ne_bool_str (iq I q ⋯) |_=>exact absurd (show false=true from S) b7
 |int i =>
   obtain⟨t,rfl⟩:=U;cases y with
   |non=>cases D;exact PySem.EqNone.ne_int_none (iq I q ⋯)
   |int j=>obtain⟨t',rfl⟩:=D;exact ne_int (iq I q (congrArg not p6)) |str j=>obtain⟨t',rfl⟩:=D;exact PySem.EqMixed.ne_int_str (iq I q ⋯) |_=>exact absurd (show false=true from S) b7
 |str i =>
   obtain⟨t,rfl⟩:=U;cases y with
   |non=>cases D;exact PySem.EqNone.ne_str_none (iq I q ⋯)
   |bl j=>cases D;exact PySem.EqMixed.ne_str_bool (iq I q ⋯)
   |int j=>obtain⟨t',rfl⟩:=D;exact PySem.EqMixed.ne_str_int (iq I q ⋯) |str j=>obtain⟨t',rfl⟩:=D;exact ne_str (iq I q (congrArg not pB)) |_=>exact absurd (show false=true from S) b7
 |byt i =>
   obtain⟨t,rfl⟩:=U;cases y with
   |byt j=>obtain⟨t',rfl⟩:=D;exact PySem.W.ne_bytes (iq I q (congrArg not pE)) |_=>exact absurd (show false=true from S) b7
 |_=>cases y <;> exact absurd (show false=true from S) b7
def wK:eN X (compareOp .Lt) (fU λi j=>.bl (decide (i<j))):=iN λ_ _ _ _ _ _ _ q=>lt_int q
def wL:eN X (compareOp .Gt) (fU λi j=>.bl (decide (j<i))):=iN λ_ _ _ _ _ _ _ q=>gt_int q
def wM:eN X (compareOp .GtE) (fU λi j=>.bl (decide (j<=i))):=iN λ_ _ _ _ _ _ _ q=>ge_int q
def qr(b:Expr)(h:op≠.In:=by decide)(h2:op≠.NotIn:=by decide):behindInMarks op b=false:=by
 have D:(op==CmpOp.In)=false:=by cases op <;> first |rfl |exact absurd rfl h
 have I:(op==CmpOp.NotIn)=false:=by cases op <;> first |rfl |exact absurd rfl h2
 cases b <;> simp[behindInMarks,D,I]
def pF(t:TE):TT:=λσ H Q=>t σ H λx H'=>∃k,x=.bl k/\Q k H'
def wN(D:eN X (compareOp op) r)(S:PE X a ta)(U:PE X b tb)(V:behindInMarks op b=false):PT X (.Compare a [op] [b] pos) (pF (kO r ta tb)):=by
 intro pins s σ H Q I h;refine wpAny_isTrue_Compare1 (aW (S pins s σ H _ I h) λv s1 ⟨x,H1,I1,r1,q1⟩=>aW (U pins s1 σ H1 _ I1 q1) λu s2 ⟨y,H2,I2,r2,q2⟩ =>
  aW (D pins s2 σ H2 x y v u _ I2 r1 r2 q2) λc s3 ⟨z,H3,I3,r3,k,e,q3⟩=>?_) V
 subst e;cases r3;exact jl ⟨H3,I3,q3⟩
def qp:(sizeLine:Nat)<2 ^ 63:=by rw[fb];decide
variable{x:V}
def qo(r:aL [x] us):∃u,us=[u]/\RelV x u:=by
 cases r with
 |cons r1 r2=>cases r2;exact⟨_,rfl,r1⟩
variable{y:V}
def pG(r:aL [x,y] us):∃u D,us=[u,D]/\RelV x u/\RelV y D:=by
 cases r with
 |cons r1 r2 =>
   cases r2 with
   |cons r3 r4=>cases r4;exact⟨_,_,rfl,r1,r3⟩
structure fL (h:Heap) (x dx C:Addr) (mA:Str->eb):Prop where
 obj:h.get? x=↑(PySem.W.instObj C dx)
 ns:h.Ns1 dx mA
 ne:dx≠x
variable{dx:Addr}{mA:Str->eb}
def wO(n:h.Ns1 dx mA):∃od,h.get? dx=↑od/\∀name,PySem.W.lookIn name od=↑(mA name):=by
 obtain⟨o,es,b,I,hd,S,_,U⟩:=n;refine⟨o,I,λname=>?_⟩;have e:=U name;unfold nsFind findBy at e;rw[<-Array.find?_toList] at e;unfold PySem.W.lookIn;rw[hd];dsimp only;split
 ·rename_i y q
  rw[q] at e;exact congrArg some e
 ·rename_i q
  rw[q] at e;have a:es.toList.any (·.refKey)=false:=by
   rw[List.any_eq_false];intro y V;obtain⟨z,t,D⟩:=S y (Array.mem_toList_iff.mp V);simp[DictEntry.refKey,D]
  have Y:¬es.toList.any (·.refKey)=true:=by rw[a];exact b7
  rw[b3 Y];exact congrArg some e
variable{x:Addr}
def fL.look(I:fL h x dx C mA):∃od,PySem.W.InstAt h x (PySem.W.instObj C dx) C ↑od/\∀name,PySem.W.lookIn name od=↑(mA name) :=
 let ⟨od,D,S⟩:=wO I.ns
 ⟨od,⟨I.obj,rfl,rfl,D⟩,S⟩
variable{prog:Program}{name:Str}
def wP{D:Bool}(X:K.In s.heap)(I:fL s.heap x dx C mA)(U:PySem.W.plainGet K C name=true)(V:PySem.W.hasDictIn K C=true)(Y:PySem.W.findIn K (.ref C) name=↑none)(a:mA name=↑v)(S:PySem.W.handedIn v=true)(h:Q v { s with toks:=s.toks+1 }) :
  wpAny (model prog w) A (getAttr (.ref x) name D) Q E s:=by
 obtain⟨od,J,b⟩:=I.look;exact PySem.W.get_value X J (kg U).1 (PySem.W.findObj_own V Y rfl (by rw[b,a])) S h
def wQ{Q:Value×d5->Shared->Prop}(X:K.In s.heap)(I:fL s.heap x dx C mA)(D:PySem.W.plainGet K C name=true)(S:PySem.W.findIn K (.ref C) name=↑↑(.ref f))(U:PySem.W.isFn K (.ref f)=true)(V:mA name=none)(h:Q (.ref f,[.ref x]) s) :
  wpAny (model prog w) A (getMethod (.ref x) name pl) Q E s:=by
 obtain⟨od,J,Y⟩:=I.look;exact PySem.W.method_fn X J (kg D).1 (kg D).2 S (im.mp U) (by show(PySem.W.lookIn name od).map (·.isSome)=↑false;rw[Y,V];rfl) h
def wR{ns:d3}{Q:Unit->Shared->Prop}(X:K.In s.heap)(I:fL s.heap x dx C mA)(d:PySem.W.findIn K (.ref C) "__setattr__" = ↑↑(.builtin "object.__setattr__"))(e:PySem.W.plainOver K C=true)(f:PySem.W.takerIn K C name=↑none)(g:PySem.W.hasDictIn K C=true)(i:PySem.Within mA ns)(j:ns.length<=sizeLine)(h:∀h',fL h' x dx C (λy=>if y=name then ↑v else mA y)->Heap.SameBut dx s.heap h'->Q () { s with heap:=h',toks:=s.toks+2 }) :
  wpAny (model prog w) A (setAttr (.ref x) name v) Q E s:=by
 obtain⟨od,J,o⟩:=I.look;refine PySem.W.set_plain X J d (PySem.W.osa_open (s:={ s with toks:=s.toks+1 }) (r:=none) X J e f λb=>?_);obtain⟨p,k,U⟩:=PySem.W.any_some g;have l:s.heap.get? x=↑⟨.ref C,↑dx,.plain,#[]⟩:=I.obj;refine av (cq (av (av (wpAny_loadPart l (av (PySem.W.Looks.here (s:={ s with toks:=s.toks+1 }) (PySem.W.looks_clsIn X k) ?_))))));rw[U];refine cq (a:=↑dx) (av (cq (av ?_)));refine wpAny_nsSet1 (s:={ s with toks:=s.toks+1 }) I.ns λh' D S=>?_;obtain⟨q,m,n,V,Y,c⟩:=D.count (PySem.Within.cons name v i);refine av (wpAny_lookBehind V (by rw[Y];exact pastItsLine_dict (b5 c (by rw[ak];omega))) ?_);exact cq (h _ ⟨(S.2 _ (Ne.symm I.ne)).trans I.obj,D,I.ne⟩ S)
variable{kw:List (Str×Value)}
def wS{R:Result->Shared->Prop}{vs:d5}(X:K.In s.heap)(I:PySem.W.makesIn K C=true)(hi:PySem.W.findIn K (.ref C) "__init__" = ↑↑(.ref f))(S:PySem.W.typeIn K (.ref f)=↑(.type "function"))(h:codeAny (model prog w) (A.under (.builtin "type.__call__" ⟨.ref C::vs,kw⟩)) (.call (.ref f) ⟨.ref (s.heap.objs.size+1)::vs,kw⟩) (PySem.W.InitBack (s.heap.objs.size+1) R)
   { s with heap:=(s.heap.push PySem.W.emptyDict).push (PySem.W.instObj C s.heap.objs.size) }) :
  codeAny (model prog w) A (.call (.ref C) ⟨vs,kw⟩) R s:=by
 obtain⟨U,g,d,t,os⟩:=s;exact PySem.W.make_core (PySem.W.makes_of X I) (PySem.W.looks_findIn X hi) (λD=>PySem.W.bind_fn X D S) (.inl rfl) h
def cH(f:Str)(v:V):List (Str×V)->List (Str×V)
 | []=>[(f,v)] | (g,x)::r=>if g=f then(g,v)::r else(g,x)::cH f v r
def pH(f g:Str)(v:V):∀fs:List (Str×V),(cH f v fs).lookup g=if g=f then ↑v else fs.lookup g
 | []=>by
   show List.lookup g [(f,v)]=_;by_cases h:g=f
   ·have D:(g==f)=true:=im.mpr h
    simp only[List.lookup,D,am h]
   ·have D:(g==f)=false:=beq_eq_false_iff_ne.mpr h
    simp only[List.lookup,D,b3 h]
 | (k,x)::r=>by
   have S:=pH f g v r;rw[show cH f v ((k,x)::r)=(if k=f then(k,v)::r else(k,x)::cH f v r) from rfl];by_cases I:k=f
   ·rw[am I]
    by_cases h:g=k
    ·have D:(g==k)=true:=im.mpr h
     simp only[List.lookup,D,am (h.trans I)]
    ·have D:(g==k)=false:=beq_eq_false_iff_ne.mpr h
     simp only[List.lookup,D,b3 (λe:g=f=>h (e.trans I.symm))]
   ·rw[b3 I]
    by_cases h:g=k
    ·have D:(g==k)=true:=im.mpr h
     simp only[List.lookup,D,b3 (λe:g=f=>I (h.symm.trans e))]
    ·have D:(g==k)=false:=beq_eq_false_iff_ne.mpr h
     simp only[List.lookup,D];exact S
def lN(f:Str)(v:V):∀fs:List (Str×V),f∈(cH f v fs).map (·.1)/\∀g,g∈fs.map (·.1)->g∈(cH f v fs).map (·.1)
 | []=>⟨by simp[cH],λg h=>by simp at h⟩ | (k,x)::r=>by
   obtain⟨I,S⟩:=lN f v r;rw[show cH f v ((k,x)::r)=(if k=f then(k,v)::r else(k,x)::cH f v r) from rfl];by_cases D:k=f
   ·rw[am D]
    subst D;exact⟨by simp,λg h=>by simpa using h⟩
   ·rw[b3 D]
    refine⟨?_,λg h=>?_⟩
    ·rw[b4]
     exact ai _ I
    ·rw[b4] at h ⊢
     rcases bz.mp h with e |e
     ·exact bz.mpr (.inl e)
     ·exact ai _ (S g e)
def pI(f:Str)(v:V):∀fs:List (Str×V),(cH f v fs).length<=fs.length+1
 | []=>by simp[cH] | (k,x)::r=>by
   have I:=pI f v r;rw[show cH f v ((k,x)::r)=(if k=f then(k,v)::r else(k,x)::cH f v r) from rfl];by_cases D:k=f
   ·rw[am D,ak,ak];omega
   ·rw[b3 D,ak,ak];omega
variable{o:eb}{v:V}
def dP.some_of(r:dP ↑v o):∃u,o=↑u/\RelV v u:=by
 cases o with
 |none=>exact(show False from r).elim |some u=>exact⟨u,rfl,r⟩
def dP.none_of(r:dP none o):o=none:=by
 cases o with
 |none=>rfl |some u=>exact(show False from r).elim
def wT(r:RelV v u):PySem.W.handedIn u=true:=by
 cases v with
 |non=>cases (show u=Value.none from r);rfl
 |bl b=>cases (show u=Value.bool b from r);rfl
 |int i=>obtain⟨t,e⟩:=(show ∃t,u=Value.int i t from r);cases e;rfl
 |str x=>obtain⟨t,e⟩:=(show ∃t,u=Value.str x t from r);cases e;rfl
 |byt b=>obtain⟨t,e⟩:=(show ∃t,u=Value.bytes b t from r);cases e;rfl
 |flt b=>obtain⟨t,e⟩:=(show ∃t,u=Value.float b t from r);cases e;rfl
 |ref a=>cases (show u=Value.ref a from r);rfl
 |ty n=>cases (show u=Value.type n from r);rfl
variable{a:Addr}{fs:List (Str×V)}
def vp(D:dL P w H h)(e:H a=↑(.ins C dx fs)):∃mA,fL h a dx C mA/\(∀f,dP (fs.lookup f) (mA f))/\PySem.Within mA (fs.map (·.1))/\fs.length<=1000/\H dx=↑(.own a):=by
 obtain⟨d,z,I,S,mA,n,r,q⟩:=(show bC P w H h a (.ins C dx fs) from D a _ e);exact⟨mA,⟨S,n,I⟩,r,q,z,d⟩
structure fM (K:e5) (C:Addr):Prop where
 pg:PySem.W.plainGet K C Str.empty=true
 hd:PySem.W.hasDictIn K C=true
 po:PySem.W.plainOver K C=true
 sa:PySem.W.findIn K (.ref C) "__setattr__" = ↑↑(.builtin "object.__setattr__")
def fM.get(c:fM K C)(f:Str):PySem.W.plainGet K C f=true:=c.pg
def cU(K:e5)(C:Addr)(f:Str):Prop:=PySem.W.findIn K (.ref C) f=↑none
variable{f:Str}
def cU.taker(n:cU K C f):PySem.W.takerIn K C f=↑none:=by
 unfold PySem.W.takerIn;rw[show PySem.W.findIn K (.ref C) f=↑none from n];rfl
structure Dv (K:e5) (C:Addr) (f:Str) (v:V) (u:Value):Prop where
 at_:PySem.W.findIn K (.ref C) f=↑↑u
 rel:RelV v u
 get:PySem.W.specialIn K u "__get__" = ↑none
 cp:PySem.W.copiedNames.contains f=false
structure gH (K:e5) (C:Addr) (m:Str) (f:Addr):Prop where
 at_:PySem.W.findIn K (.ref C) m=↑↑(.ref f)
 fn:PySem.W.isFn K (.ref f)=true
 kp:PySem.W.keepIn K (.ref f)=true
variable{b:Bool}
def wU(I:Inv X pins σ H s)(e:H a=↑(.ins C dx fs))(c:fM X.K C)(n:cU X.K C f)(l:fs.lookup f=↑v)(h:∀u s',Inv X pins σ H s'->RelV v u->Q u s'):wpAny (model X.prog X.w) A (getAttr (.ref a) f b) Q E s:=by
 obtain⟨mA,O,r,_,_,_⟩:=vp I.hok e;obtain⟨u,S,D⟩:=dP.some_of (v:=v) (o:=mA f) (by rw[<-l];exact r f);exact wP I.kIn O (c.get f) c.hd n S (wT D) (h u _ (I.tok _) D)
def pJ{m:Str}{g:Addr}{Q:Value×d5->Shared->Prop}(I:Inv X pins σ H s)(e:H a=↑(.ins C dx fs))(c:fM X.K C)(k:gH X.K C m g)(l:fs.lookup m=none)(h:Q (.ref g,[.ref a]) s):wpAny (model X.prog X.w) A (getMethod (.ref a) m pl) Q E s:=by
 obtain⟨mA,O,r,_,_,_⟩:=vp I.hok e;have D:mA m=none:=dP.none_of (by rw[<-l];exact r m);exact wQ I.kIn O (c.get m) k.at_ k.fn D h
def wV{Q:Unit->Shared->Prop}(I:Inv X pins σ H s)(e:H a=↑(.ins C dx fs))(c:fM X.K C)(n:cU X.K C f)(i:fs.length<1000)(S:RelV y u)(h:∀s',Inv X pins σ (aR H a (.ins C dx (cH f y fs))) s'->Q () s'):wpAny (model X.prog X.w) A (setAttr (.ref a) f u) Q E s:=by
 obtain⟨mA,O,r,wi,_,D⟩:=vp I.hok e;have U:(fs.map (·.1)).length<=sizeLine:=by rw[af,fb];omega
 refine wR I.kIn O c.sa c.po n.taker c.hd wi U λh' O' V=>h _ ?_;have hd:∃o,h'.get? dx=↑o:=let ⟨o,_,_,e',_⟩:=O'.ns;⟨o,e'⟩;refine I.write (x:=a) (e:=dx) (by rw[e];exact True.intro) (.inr D) (λb q Y z=>(V.2 b Y).trans z) hd ?_;refine⟨by rw[e8 O.ne];exact D,?_,O.ne,O'.obj,_,O'.ns,λg=>?_,λg d=>?_⟩
 ·have:=pI f y fs;omega
 ·show dP ((cH f y fs).lookup g) (if g=f then ↑u else mA g)
  rw[pH];by_cases q:g=f
  ·rw[am q,am q];exact S
  ·rw[b3 q,b3 q];exact r g
 ·by_cases q:g=f
  ·rw[q];exact(lN f y fs).1
  ·refine(lN f y fs).2 g (wi g λz=>d ?_)
   show(if g=f then ↑u else mA g)=none;rw[b3 q];exact z
def Inv.made(I:Inv X pins σ H s):Inv X pins σ (aR (aR H s.heap.objs.size (.own (s.heap.objs.size+1))) (s.heap.objs.size+1) (.ins C s.heap.objs.size []))
  { s with heap:=(s.heap.push PySem.W.emptyDict).push (PySem.W.instObj C s.heap.objs.size) }:=by
 have D:(s.heap.push PySem.W.emptyDict).get? s.heap.objs.size=↑PySem.W.emptyDict:=b9 s.heap rfl;have U:((s.heap.push PySem.W.emptyDict).push (PySem.W.instObj C s.heap.objs.size)).get? (s.heap.objs.size+1)=↑(PySem.W.instObj C s.heap.objs.size):=by
  have:=b9 (s.heap.push PySem.W.emptyDict) (o:=PySem.W.instObj C s.heap.objs.size) rfl;rwa [gv] at this
 have V:(s.heap.push PySem.W.emptyDict).Ns s.heap.objs.size (λ_=>none):=⟨PySem.W.emptyDict,#[],_,D,rfl,(λe Y=>absurd Y ⋯),λ_=>rfl⟩;have c:=I.laid (a:=s.heap.objs.size) (o:=.own (s.heap.objs.size+1)) (h':=s.heap.push PySem.W.emptyDict) (t':=s.toks) (λb u q=>aj _ q) (bn _) ⟨_,D⟩;refine c.laid (a:=s.heap.objs.size+1) (o:=.ins C s.heap.objs.size []) (t':=s.toks) (λb u q=>aj _ q) (Nat.le_of_eq (gv _ _)) ?_;have S:s.heap.objs.size≠s.heap.objs.size+1:=bo (dw _);refine⟨by rw[e8 S,j9],gh _,S,U,λ_=>none,(Heap.Ns1.of_empty V).at λo q=>aj _ q,λ_=>True.intro,λy d=>absurd rfl d⟩
def wW{env:Env}(I:attributeBase e f env (eval e env)=eval e env)(h:wpAny (model prog w) A (eval e env) (λo D=>wpAny (model prog w) A (getAttr o f true) Q E D) E s):wpAny (model prog w) A (eval (.Attribute e f pos) env) Q E s :=
 Attribute_any_ h (by rw[arm_eval_Attribute,I])
def lO(K:e5)(ta:TE)(f:Str):TE:=λσ H Q=>ta σ H λx H1=>∃a C dx fs v,x=.ref a/\H1 a=↑(.ins C dx fs)/\fM K C/\cU K C f/\fs.lookup f=↑v/\Q v H1
def lP(K:e5)(ta tv:TE)(f:Str):TS:=λD σ H=>tv σ H λy H1=>ta σ H1 λx H2=>∃a C dx fs,x=.ref a/\H2 a=↑(.ins C dx fs)/\fM K C/\cU K C f/\fs.length<1000 /\
 D.nx σ (aR H2 a (.ins C dx (cH f y fs)))
def pK(D:PE X e ta)(S:attributeBase e f X.env (eval e X.env)=eval e X.env):PE X (.Attribute e f pos) (lO X.K ta f):=by
 intro pins s σ H Q I h;refine wW S (aW (D pins s σ H _ I h) λu g U=>?_);obtain⟨x,H1,V,Y,a,C,dx,fs,v,ex,ea,c,n,l,q⟩:=U;subst ex;obtain rfl:u=Value.ref a:=Y;exact wU V ea c n l λi s2 b d=>⟨v,H1,b,d,q⟩
variable{o value:Expr}{tv:TE}
def wX(U:PE X o ta)(V:PE X value tv)(Y:swapsWith value ↑(.Attribute o f pos') pos.line X.env=pure false):PS X (.Assign [.Attribute o f pos'] value pos) (lP X.K ta tv f):=by
 intro pins s σ H D I h;refine plainObj_wpAny_Assign_Attribute (aW (V pins s σ H _ I h) λu b S=>?_) Y;obtain⟨y,H1,d,e,q⟩:=S;refine aW (U pins b σ H1 _ d q) λg s2 S=>?_;obtain⟨x,H2,i,j,a,C,dx,fs,ex,ea,c,n,l,k⟩:=S;subst ex;obtain rfl:g=Value.ref a:=j;exact wV i ea c n l e λp m=>⟨σ,_,m,k⟩
inductive dF (K:e5) (H:Hp):V->Value->Prop where
 |non:dF K H .non (.type "NoneType")
 |bl (x:Bool):dF K H (.bl x) (.type "bool")
 |int (i:Int):dF K H ↥i (.type "int")
 |str (x:Str):dF K H (.str x) (.type "str")
 |flt (x:UInt64):dF K H (.flt x) (.type "float")
 |lst {a:Addr} {xs:fe} (e:H a=↑(.lst xs)):dF K H (.ref a) (.type "list")
 |frz {a:Addr} {o:Obj} {xs:fe} (e:H a=↑(.frz o (.lst xs))):dF K H (.ref a) (.type "list")
 |tup {a:Addr} {xs:fe} (e:H a=↑(.tup xs)):dF K H (.ref a) (.type "tuple")
 |dK {a:Addr} {kvs:List (eJ×V)} (e:H a=↑(.dK kvs)):dF K H (.ref a) (.type "dict")
 |dT {a:Addr} {kvs:List (List eJ×V)} (e:H a=↑(.dT kvs)):dF K H (.ref a) (.type "dict")
 |ins {a C dx:Addr} {fs:List (Str×V)} (e:H a=↑(.ins C dx fs)) (cl:fM K C) (ha:PySem.W.findIn K (.ref C) "__class__" = ↑↑(.builtin "object.__class__"))
    (hn:PySem.W.specialIn K (.builtin "object.__class__") "__get__" = ↑↑(.builtin "getset_descriptor.__get__")) (htk:PySem.W.takesIn K (.builtin "object.__class__")=↑true)
    (hm:PySem.W.mroIn K C (.type "object")=↑true):dF K H (.ref a) (.ref C)
variable{x:Str}
def wY{x:V}{t:Value}(I:Inv X pins σ H s)(D:RelV x u)(S:dF X.K H x t)(e:PySem.W.kitOne X.K t c=↑b)(h:∀tk,Q (.bool b) { s with toks:=tk }) :
  wpAny (model X.prog X.w) A (call (.builtin "isinstance") [u,c]) Q E s:=by
 cases S with
 |non=>cases (show u=Value.none from D);exact cx PySem.W.kitx_none I.kIn True.intro e (λz=>nomatch z) h
 |bl y=>cases (show u=Value.bool y from D);exact cx PySem.W.kitx_bool I.kIn True.intro e (λz=>nomatch z) h
 |int i=>obtain⟨t,q⟩:=(show ∃t,u=Value.int i t from D);cases q;exact cx PySem.W.kitx_int I.kIn True.intro e (λz=>nomatch z) h
 |str y=>obtain⟨t,q⟩:=(show ∃t,u=Value.str y t from D);cases q;exact cx PySem.W.kitx_str I.kIn True.intro e (λz=>nomatch z) h
 |flt y=>obtain⟨t,q⟩:=(show ∃t,u=Value.float y t from D);cases q;exact cx PySem.W.kitx_float I.kIn True.intro e (λz=>nomatch z) h
 | @lst a xs ea =>
   cases (show u=Value.ref a from D);obtain⟨_,_,n,_,h1⟩:=(show bC X.prog X.w H s.heap a (.lst xs) from I.hok a _ ea);exact cx li I.kIn ⟨_,h1,rfl⟩ e (λz=>nomatch z) h
 | @frz a ob xs ea =>
   cases (show u=Value.ref a from D);obtain⟨_,_,_,n,_,h1⟩:=(show bC X.prog X.w H s.heap a (.frz ob (.lst xs)) from I.hok a _ ea);exact cx li I.kIn ⟨_,h1,rfl⟩ e (λz=>nomatch z) h
 | @tup a xs ea =>
   cases (show u=Value.ref a from D);obtain⟨_,_,_,p⟩:=(show bC X.prog X.w H s.heap a (.tup xs) from I.hok a _ ea);obtain⟨o,h1,h2,_⟩:=p;exact cx PySem.W.kitx_tuple I.kIn ⟨o,h1,h2⟩ e (λz=>nomatch z) h
 | @dK a kvs ea =>
   cases (show u=Value.ref a from D);obtain⟨_,_,vs,_,p⟩:=(show bC X.prog X.w H s.heap a (.dK kvs) from I.hok a _ ea);obtain⟨o,es,U,h1,h2,_⟩:=p;exact cx PySem.W.kitx_dict I.kIn ⟨o,h1,h2.1⟩ e (λz=>nomatch z) h
 | @dT a kvs ea =>
   cases (show u=Value.ref a from D);obtain⟨_,_,xs,_,o,es,U,h1,h2,_⟩:=(show bC X.prog X.w H s.heap a (.dT kvs) from I.hok a _ ea);exact cx PySem.W.kitx_dict I.kIn ⟨o,h1,h2.1⟩ e (λz=>nomatch z) h
 | @ins a C dx fs ea cl ha hn htk hm =>
   cases (show u=Value.ref a from D);obtain⟨mA,O,_⟩:=vp I.hok ea;obtain⟨od,J,_⟩:=O.look;exact cx (PySem.W.kitx_own (cl.get _) cl.hd ha hn htk hm) I.kIn J e (λz=>nomatch z) h
structure aP (k:Nat) (A:Around):Prop where
 hd:A.handled=none
 dp:A.depth+3*k+5<recursionLimit
 un:A.units+16*k+200<cLine
def aP.mono{j:Nat}(r:aP k A)(h:j<=k):aP j A:=⟨r.hd,by have:=r.dp;omega,by have:=r.un;omega⟩
def aP.deeper(r:aP (k+1) A)(env:Env):aP k (A.deeper env) :=
 ⟨r.hd,by have:=r.dp;show A.depth+1+3*k+5<_;omega,by have:=r.un;show A.units+3+16*k+200<_;omega⟩
def wZ:(A.under (.builtin "type.__call__" ⟨.ref C::us,kw⟩)).depth=A.depth+1:=by
 first |rfl |simp[Around.under,Code.weight,Code.isCreation,Code.isGuard,Code.isCaller,Code.frames,Code.isFrame,guardIds]
def w_:(A.under (.builtin "type.__call__" ⟨.ref C::us,kw⟩)).units=A.units+1:=by
 first |rfl |simp[Around.under,Code.cUnits,Code.frames,Code.isFrame]
def aP.make(r:aP (k+1) A)(C:Addr)(us:d5)(kw:List (Str×Value)):aP k (A.under (.builtin "type.__call__" ⟨.ref C::us,kw⟩)) :=
 ⟨r.hd,by have:=r.dp;rw[wZ];omega,by have:=r.un;rw[w_];omega⟩
def aP.depth(r:aP k A):A.depth<recursionLimit:=by have:=r.dp;omega
def aP.units(r:aP k A):A.units+64<cLine:=by have:=r.un;omega
def iO:TA:=λ_ H Q=>Q [] H
def pL(ta:TE)(tr:TA):TA:=λσ H Q=>ta σ H λx H1=>tr σ H1 λxs H2=>Q (x::xs) H2
def lx:PA X [] iO:=λ_ _ _ _ H Q I h=>Calls.spliced_nil ⟨[],H,I,.nil,h⟩
def j6(D:PE X e te)(S:PA X es t)(U:‹starEach (e::es) X.env=(false,eval e X.env)::starEach es X.env›):PA X (e::es) (pL te t):=by
 intro pos pins s σ H Q I h;rw[U];show wpAny _ _ (spliced ((false,eval e X.env)::backTo pos (starEach es X.env))) _ _ s;refine Calls.spliced_cons (aW (D pins s σ H _ I h) λu V Y=>?_);obtain⟨x,H1,a,b,c⟩:=Y;exact aW (S pos pins V σ H1 _ a c) λus s2 ⟨xs,H2,I2,r2,q2⟩=>⟨x::xs,H2,I2,.cons b r2,q2⟩
def lQ(t:TA):TE:=λσ H Q=>t σ H λxs H1=>xs.length<=sizeLine/\∀p,H1 p=none->Q (.ref p) (aR H1 p (.tup xs))
def lR(t:TA):TE:=λσ H Q=>t σ H λxs H1=>xs.length<=sizeLine/\∀p,H1 p=none->Q (.ref p) (aR H1 p (.lst xs))
def pM{x1}(h:PA X es t):PE X (.Tuple es x1 pos) (lQ t):=by
 intro pins s σ H Q I U;refine wpAny_Tuple_spliced (aW (h pos pins s σ H _ I U) λus D V=>?_);obtain⟨xs,H1,S,r,z,q⟩:=V;refine⟨by rw[<-r.length];exact z,?_⟩;have Y:H1 D.heap.objs.size=none:=S.hok.fresh (bn _);refine⟨.ref D.heap.objs.size,aR H1 D.heap.objs.size (.tup xs),S.laid (t':=D.toks) (λb u e=>aj _ e) (bn _) ?_,rfl,q _ Y⟩;exact⟨z,us,r,⟨_,b9 _ rfl,rfl,_,rfl⟩⟩
def xa(h:PA X es t):PE X (.List es pos) (lR t):=by
 intro pins s σ H Q I U;refine wpAny_List_spliced (aW (h pos pins s σ H _ I U) λus D V=>?_);obtain⟨xs,H1,S,r,z,q⟩:=V;refine⟨by rw[<-r.length];exact z,?_⟩;have Y:H1 D.heap.objs.size=none:=S.hok.fresh (bn _);refine⟨.ref D.heap.objs.size,aR H1 D.heap.objs.size (.lst xs),S.laid (t':=D.toks) (λb u e=>aj _ e) (bn _) ?_,rfl,q _ Y⟩;exact⟨z,us,0,r,b9 _ rfl⟩
abbrev Sp:=fe->Hp->VK->XK->Prop
abbrev fN:=ep->Hp->Shared->XK->Value->Shared->Prop
structure eO (P:Program) (w:World) (K:e5) (mg:Str->eb) (base:Heap) (A:Around) (outer:ep) (s:Shared) (H:Hp):Prop where
 frames:A.frames=↑outer
 mod:Mod K mg base
 bs:∀b o,base.get? b=↑o->s.heap.get? b=↑o/\H b=none
 bsz:base.objs.size<=s.heap.objs.size
 funs:s.heap.FunFrames base outer
 frf:∀b∈c_ outer,H b=none
 hok:dL P w H s.heap
 bare:AllBare s.gens
def CE(outer:ep)(P:Program)(w:World)(H:Hp)(s:Shared)(Q:VK)(u:Value)(s':Shared):Prop :=
 ∃v H',s'.os=s.os/\AllBare s'.gens/\Un (c_ outer) [] H H' s.heap s'.heap/\dL P w H' s'.heap/\RelV v u/\Q v H'
def CR(CX:fN)(outer:ep)(P:Program)(w:World)(H:Hp)(s:Shared)(Q:VK)(E:XK)(r:Result)(s':Shared):Prop :=
 match r with
 | .ok (.ret u)=>CE outer P w H s Q u s' | .ok _=>False | .error e=>CX outer H s E e s'
structure bD (P:Program) (w:World) (K:e5) (mg:Str->eb) (base:Heap) (CX:fN) (k:Nat) (f:Addr) (fd:FuncData) (ps:d3) (sp:Sp):Prop where
 len:∀vs H Q E,sp vs H Q E->vs.length=ps.length
 run:∀(A:Around) (outer:ep) (s:Shared) (H:Hp) (args:Args) (us:d5) (vs:fe) (Q:VK) (E:XK),aP k A->eO P w K mg base A outer s H->BindsTo s fd args (ps.zip us)->aL vs us->sp vs H Q E ->
  codeAny (model P w) A (.call (.ref f) args) (CR CX outer P w H s Q E) s
variable{f:Addr}{mg:Str->eb}{base:Heap}{CX:fN}{fd:FuncData}{ps:d3}{sp:Sp}
theorem bD.imp{D:Sp}(F:bD P w K mg base CX k f fd ps sp)(h:∀vs H Q E,D vs H Q E->sp vs H Q E):bD P w K mg base CX k f fd ps D :=
 ⟨λvs H Q E q=>F.len vs H Q E (h _ _ _ _ q),λA outer s H args us vs Q E I S U V Y=>F.run A outer s H args us vs Q E I S U V (h _ _ _ _ Y)⟩
variable{outer:ep}
def eO.make(e:eO P w K mg base A outer s H)(C:Addr)(us:d5)(kw:List (Str×Value)) :
  eO P w K mg base (A.under (.builtin "type.__call__" ⟨.ref C::us,kw⟩)) outer s H:=⟨by first |exact e.frames | (simpa[Around.under,Code.envs,Code.isFrame,pushEnvs] using e.frames),e.mod,e.bs,e.bsz,e.funs,e.frf,e.hok,e.bare⟩
protected def Inv.env0(I:Inv X pins σ H s):eO X.prog X.w X.K X.mg X.base X.A X.stack s H :=
 ⟨I.ok.frames,I.ok.mod,I.bs,b5 I.ok.bsz I.sz,I.stack,I.stkFree,I.hok,I.bare⟩
variable{Q:VK}
def Inv.after(I:Inv X pins σ H s)(h:CE X.stack X.prog X.w H s Q u s'):EP X pins σ Q u s':=by
 obtain⟨v,H',os,D,un,S,r,q⟩:=h;obtain⟨V,g,d,t,U⟩:=s';obtain rfl:U=s.os:=os;exact⟨v,H',I.call (h':=V) (g':=g) (d':=d) (t':=t) (ch:=[]) un S D (λb z=>absurd z ⋯),r,q⟩
def yt(sp:Sp)(dvs:fe)(E:XK)(t:TA):TE:=λσ H Q=>t σ H λvs H1=>sp (vs++dvs) H1 Q E
def Binds(K:e5)(fd:FuncData)(ps:d3)(ds:d5):Prop :=
 ∀(s:Shared) (us:d5),K.In s.heap->(us++ds).length=ps.length->BindsTo s fd ⟨us,[]⟩ (ps.zip (us++ds))
def Binds.all(h:∀us:d5,us.length=ps.length->bindArgs fd ⟨us,[]⟩=pure (ps.zip us)):Binds K fd ps []:=λs us _ D=>by
 rw[cr] at D ⊢;exact .of_eq (h us D)
def zf(CX:fN)(X:Cx)(E:XK):Prop:=∀(pins:e9) (σ:St) (H:Hp) (s:Shared) (e:Value) (s':Shared),Inv X pins σ H s->CX X.stack H s E e s'->X.xe e s'
variable{E:XK}{dvs:fe}{ds:d5}
theorem x0(F:bD X.prog X.w X.K X.mg X.base CX k f fd ps sp)(U:aP k X.A)(V:Binds X.K fd ps ds)(hd:aL dvs ds)(Y:zf CX X E)(I:Inv X pins σ H s)(r:aL vs us)(h:sp (vs++dvs) H Q E):wpAny (model X.prog X.w) X.A (call (.ref f) us) (EP X pins σ Q) X.xe s:=by
 have S:aL (vs++dvs) (us++ds):=r.append hd;have a:(us++ds).length=ps.length:=by rw[<-S.length];exact F.len _ _ _ _ h
 refine ke (i5 (F.run X.A X.stack s H ⟨us,[]⟩ (us++ds) (vs++dvs) Q E U I.env0 (V s us I.kIn a) S h) λr s' D=>?_);cases r with
 |error e=>exact Y pins σ H s e s' I D |ok fl =>
   cases fl with
   |ret u=>exact I.after D |next=>exact False.elim D |brk=>exact False.elim D |cont=>exact False.elim D
def pN(F:bD X.prog X.w X.K X.mg X.base CX k f fd ps sp)(V:aP k X.A)(Y:Gl X x)(a:X.mg x=↑(.ref f))(b:PySem.W.keepIn X.K (.ref f)=true)(c:Binds X.K fd ps ds)(hd:aL dvs ds)(d:zf CX X E)(g:PA X (e::es) t)(D:(x==("__debug__" : Str))=false:=by decide)(i:‹starEach (e::es) X.env=(false,eval e X.env)::starEach es X.env›)(S:‹(backTo pos (starEach es X.env)).any (·.1)=false›) :
  PE X (.Call (.Name x p) (e::es) [] pos) (yt sp dvs E t):=by
 intro pins s σ H Q I h;refine fm (qe I Y a ?_ D);refine gc (h₀:=X.base) I.ok.mod.kin b (aW (g pos pins s σ H _ I h) λus l j=>?_) i S;obtain⟨vs,H1,U,r,q⟩:=j;refine⟨U.kIn,?_⟩;exact x0 F V c hd d U r q
structure Mk (K:e5) (C f:Addr):Prop where
 makes:PySem.W.makesIn K C=true
 init:PySem.W.findIn K (.ref C) "__init__" = ↑↑(.ref f)
 fn:PySem.W.isFn K (.ref f)=true
 kp:PySem.W.keepIn K (.ref C)=true
section
variable {X:Cx} {CX:fN} {k:Nat} {f C:Addr} {fd:FuncData} {ps ks:d3} {sp:Sp} {E:XK} {x m:Str} {p pos apos kpos:Pos} {e o:Expr} {es:er} {kws:List Keyword} {te ta:TE} {t tk:TA} {nm:et}
structure Dw (K:e5) (fd:FuncData) (ps ks:d3) (g:d5->d5->d5) (gV:fe->fe->fe):Prop where
 to:∀(s:Shared) (us ws:d5),K.In s.heap->(g us ws).length=ps.length->BindsTo s fd ⟨us,ks.zip ws⟩ (ps.zip (g us ws))
 rel:∀ {vs:fe} {us:d5} {zs:fe} {ws:d5},aL vs us->aL zs ws->aL (gV vs zs) (g us ws)
variable {g:d5->d5->d5} {gV:fe->fe->fe}
end
structure mq (N P:d3) (sc:Scope):Prop where
 kind:sc.kind=.function
 co:sc.isCoroutine=false
 gen:sc.isGenerator=false
 nd:N.Nodup
 pre:N.take P.length=P
 par:∀x∈P,sc.names.lookup x=some .local\/sc.names.lookup x=some .cell
 nofree:∀y∈sc.names,y.2≠.free
def pO{kindOf:Str->Option NameKind}{x:Str}:∀ {D:List (Str×Value)} {m:Str->eb},(∀v,(x,v)∉D)->bindL kindOf D m x=m x
 | [],_,_=>rfl | (n,v)::r,m,h=>by
   unfold bindL;rw[pO λw I=>h w (ai _ I)];split
   ·have:x≠n:=by rintro rfl;exact h v ay
    simp[this]
   ·rfl
def pP{kindOf:Str->Option NameKind}{x:Str}:∀ {D:List (Str×Value)} {m:Str->eb},(∀v,(x,v)∉D)->bindC kindOf D m x=m x
 | [],_,_=>rfl | (n,v)::r,m,h=>by
   unfold bindC;rw[pP λw I=>h w (ai _ I)];split
   ·rfl
   ·have:x≠n:=by rintro rfl;exact h v ay
    simp[this]
def pQ{kindOf:Str->Option NameKind}{x:Str}{v:Value}:∀ {P:d3} {vs:d5} {i:Nat} {m:Str->eb},P.Nodup->P[i]?=↑x->vs[i]?=↑v->kindOf x=some .local ->
  bindL kindOf (P.zip vs) m x=↑v
 | [],_,_,_,_,h,_,_=>by simp at h |_::_,[],_,_,_,_,h,_=>by simp at h |p::P,w::vs,0,m,nd,h1,h2,hk=>by
   simp at h1 h2;subst h1;subst h2;show bindL kindOf ((p,w)::P.zip vs) m p=_;unfold bindL;rw[pO λv D=>(cb.mp nd).1 (f9 D).1,am hk];simp
 |p::P,w::vs,i+1,m,nd,h1,h2,hk=>by
   show bindL kindOf ((p,w)::P.zip vs) m x=_;unfold bindL;exact pQ (i:=i) (cb.mp nd).2 (by simpa using h1) (by simpa using h2) hk
def pR{kindOf:Str->Option NameKind}{x:Str}{v:Value}:∀ {P:d3} {vs:d5} {i:Nat} {m:Str->eb},P.Nodup->P[i]?=↑x->vs[i]?=↑v->kindOf x≠some .local ->
  bindC kindOf (P.zip vs) m x=↑v
 | [],_,_,_,_,h,_,_=>by simp at h |_::_,[],_,_,_,_,h,_=>by simp at h |p::P,w::vs,0,m,nd,h1,h2,hk=>by
   simp at h1 h2;subst h1;subst h2;show bindC kindOf ((p,w)::P.zip vs) m p=_;unfold bindC;rw[pP λv D=>(cb.mp nd).1 (f9 D).1,b3 hk];simp
 |p::P,w::vs,i+1,m,nd,h1,h2,hk=>by
   show bindC kindOf ((p,w)::P.zip vs) m x=_;unfold bindC;exact pR (i:=i) (cb.mp nd).2 (by simpa using h1) (by simpa using h2) hk
def i4(N:d3)(vs:fe):St:=vs.map some++List.replicate (N.length-vs.length) none
def aX(CX:fN)(P:Program)(w:World)(K:e5)(mg:Str->eb)(base:Heap)(N:d3)(qual:Str)(scope:Scope)(f:Addr)(I:Value)(A:Around)(outer:ep)(s:Shared)(H:Hp)(E:XK):Cx where
 prog:=P
 w:=w
 K:=K
 mg:=mg
 base:=base
 A:=A.deeper (envOfC qual scope s.heap.objs.size f I)
 N:=N
 s₀:=s
 H₀:=H
 env:=envOfC qual scope s.heap.objs.size f I
 outer:=outer
 stack:=envOfC qual scope s.heap.objs.size f I::outer
 ex:=[]
 calm:=true
 fn:=λ_=>true
 pn:=[]
 xe:=λe s'=>wpAny (model P w) (A.deeper (envOfC qual scope s.heap.objs.size f I)) (leaving (envOfC qual scope s.heap.objs.size f I) e) (λ_ D=>CX outer H s E e D) (λe' D=>CX outer H s E e' D) s'
def pS{sc:Scope}(h:sc.names.lookup x=some .cell):∃c,(cellsFrom n sc.names []).lookup x=↑c:=by
 have q:=jh sc.names n [] (.inl h);exact i7.mp q
variable{qual:Str}{scope:Scope}
def pT{Y:Value}{d:Shared}(S:mq N ps scope)(hd:A.handled=none)(D:eO P w K mg base A outer s H)(t:vs.length=ps.length)(r:aL vs us)(x:InCallC s s.heap.objs.size (bindL (envOfC qual scope s.heap.objs.size f Y).kindOf (ps.zip us) λ_=>none) (cellsFrom (s.heap.objs.size+1) scope.names []) (bindC (envOfC qual scope s.heap.objs.size f Y).kindOf (ps.zip us) λ_=>none) d) :
  Inv (aX CX P w K mg base N qual scope f Y A outer s H E) [] (i4 N vs) H d:=by
 have l:ps.length<=N.length:=by have:=congrArg List.length S.pre;rw[d6] at this;omega
 obtain⟨h1,tk,rfl,g⟩:=x.done;have I:∀b:Addr,b∉(aX CX P w K mg base N qual scope f Y A outer s H E).ex:=λb z=>absurd (show b∈([]:ed) from z) ⋯;refine⟨⟨D.mod,S.kind,rfl,rfl,bn _,λy z c h1 h2=>?_,λy hy=>?_,λy c _ h=>?_,λ_=>hd,Around.frames_deeper D.frames,.inr ⟨rfl,rfl⟩,λb z=>absurd z (I b),D.bs,D.bsz,λb _ _=>I b,λb z=>absurd z (I b),D.funs,D.frf⟩,
  rfl,D.bare,Un.kept g,⟨_,x.toInCall.ns,λi y v h1 h2 B=>?_⟩,λy c h=>⟨_,x.cell y c h⟩,D.hok.fresh (bn _),λy c h=>?_,λp U=>absurd (show p∈([]:e9) from U) ⋯,D.hok.kept g,?_⟩
 ·exact name_of_addr x.apart (cz h1) (cz h2)
 ·have hy:scope.names.lookup y=some .cell\/scope.names.lookup y=some .free:=hy
  rcases hy with hy |hy
  ·exact pS hy
  ·exact absurd rfl (S.nofree _ (cz hy))
 ·exact lm (x.above y c (cz h))
 ·have hi:i<vs.length:=by
   unfold i4 at h2;by_cases hi:i<vs.length
   ·exact hi
   ·rw[bj (by simpa using hi)] at h2
    rw[ur] at h2;split at h2 <;> cases h2
  have m:vs[i]?=↑v:=by
   unfold i4 at h2;rw[ao (by simpa using hi),bh] at h2;cases e:vs[i]? with
   |none=>rw[e] at h2;cases h2
   |some a=>rw[e] at h2;cases h2;rfl
  obtain⟨u,j,o⟩:=r.get m;have U:ps[i]?=↑y:=by
   rw[<-S.pre,List.getElem?_take_of_lt (by omega)];exact h1
  have V:ps.Nodup:=by rw[<-S.pre];exact S.nd.sublist (List.take_sublist _ _)
  refine⟨u,o,?_⟩;rcases S.par y (br U) with k |k
  ·exact .inl ⟨k,pQ V U j k⟩
  ·obtain⟨c,e⟩:=pS (n:=s.heap.objs.size+1) k
   refine .inr ⟨.inl k,c,e,?_⟩;have q:=x.cell y c e;rw[pR V U j (by show scope.names.lookup y≠_;rw[k];decide)] at q;exact q
 ·exact D.hok.fresh (lm (x.above y c (cz h)))
 ·unfold i4
  show _=N.length;rw[bd,af,jv];omega
def x2{D:Arguments}{z kV d B cdv ct oc:Value}{an od:Option Addr}{osl:Array eb}(G:K.lookup f=↑⟨oc,od,.func (PySem.W.fnOf name qual D body scope z kV d B an cdv ct),osl⟩)(j:PySem.W.codeIn K cdv qual=true)(S:mq N ps scope)(len:∀vs H Q E,sp vs H Q E->vs.length=ps.length)(Y:∀(A:Around) (outer:ep) (s:Shared) (H:Hp) (vs:fe) (Q:VK) (E:XK),aP k (A.deeper (envOfC qual scope s.heap.objs.size f cdv))->sp vs H Q E ->
   ∃t,e_ (aX CX P w K mg base N qual scope f cdv A outer s H E) body t/\t { nx:=λ_ H'=>Q .non H',rt:=Q } (i4 N vs) H) :
  bD P w K mg base CX (k+1) f (PySem.W.fnOf name qual D body scope z kV d B an cdv ct) ps sp:=by
 refine⟨len,λA outer s H args us vs Q E l g L r h=>?_⟩;have M:=len _ _ _ _ h;have C:K.In s.heap:=g.mod.kin.keeps λb o e=>(g.bs b o e).1;have m:s.heap.NoLimit:=g.mod.nolimit.keeps λb o e=>(g.bs b o e).1;have a:∀y∈ps.zip us,scope.names.lookup y.1=some .local\/(scope.names.lookup y.1=some .cell/\((cellsFrom (s.heap.objs.size+1) scope.names []).lookup y.1).isSome=true):=λ⟨n,v⟩ hy=>by
  rcases S.par n (f9 hy).1 with q |q
  ·exact .inl q
  ·exact .inr ⟨q,jh _ _ _ (.inl q)⟩
 refine codeAny_call_function l.depth (C _ _ G) rfl S.co S.gen rfl (PySem.W.codeRec_of C j) (L _ _ _ _ ?_);refine wpAny_newFunctionEnv_cells S.kind a λenv O F x=>?_;subst O;refine⟨m.keeps x.toInCall.keep,codeAny_func ?_⟩;obtain⟨t,R,T⟩:=Y A outer s H vs Q E (l.deeper _) h;have I:Inv (aX CX P w K mg base N qual scope f cdv A outer s H E) [] (i4 N vs) H F:=pT S l.hd g M r x;refine fz (R [] F (i4 N vs) H _ I T) (λfl s' c=>?_) λe s' c=>c;have i:∀ {U:St} {H':Hp} {v:V} {u:Value},Inv (aX CX P w K mg base N qual scope f cdv A outer s H E) [] U H' s'->RelV v u->Q v H'->CE outer P w H s Q u s' :=
  λ{U H' v u} J p q=>⟨v,H',J.os,J.bare,J.base,J.hok,p,q⟩
 cases fl with
 |ret u =>
   obtain⟨v,U,H',J,p,q⟩:=c;exact i J p q
 |next =>
   obtain⟨U,H',J,q⟩:=c;exact i (v:=V.non) (u:=Value.none) J rfl q
 |brk =>
   obtain⟨_,_,_,q⟩:=c;exact False.elim q
 |cont =>
   obtain⟨_,_,_,q⟩:=c;exact False.elim q
def kP(r:fe->Hp->VK->Prop)(t:TA):TE:=λσ H Q=>t σ H λvs H1=>r vs H1 Q
variable{r:fe->Hp->VK->Prop}{id:String}
def rq(U:l4 X (.builtin id) r)(V:Gl X x)(Y:X.mg x=none)(a:bootBuiltins x=↑(.builtin id))(b:PA X (e::es) t)(c:x ≠ "__name__":=by decide)(D:(x==("__debug__" : Str))=false:=by decide)(d:‹starEach (e::es) X.env=(false,eval e X.env)::starEach es X.env›)(S:‹(backTo pos (starEach es X.env)).any (·.1)=false›):PE X (.Call (.Name x p) (e::es) [] pos) (kP r t):=by
 intro pins s σ H Q I h;refine fm (t3 I V Y a ?_ c D);exact PyProof.Rows.callWith_builtin1 (aW (b pos pins s σ H _ I h) λus s1 ⟨vs,H1,I1,r1,q1⟩=>U pins s1 σ H1 vs us Q I1 r1 q1) d S
variable{T:String}
def pU(U:l4 X (.type T) r)(V:Gl X x)(Y:X.mg x=none)(a:bootBuiltins x=↑(.type T))(b:PA X (e::es) t)(c:x ≠ "__name__":=by decide)(D:(x==("__debug__" : Str))=false:=by decide)(d:‹starEach (e::es) X.env=(false,eval e X.env)::starEach es X.env›)(S:‹(backTo pos (starEach es X.env)).any (·.1)=false›):PE X (.Call (.Name x p) (e::es) [] pos) (kP r t):=by
 intro pins s σ H Q I h;refine fm (t3 I V Y a ?_ c D);exact ia (aW (b pos pins s σ H _ I h) λus s1 ⟨vs,H1,I1,r1,q1⟩=>U pins s1 σ H1 vs us Q I1 r1 q1) d S
end L2
namespace HT
open PySem PyProof.Rows
section
open PySem.SeqAt
open PySem.AutoSeq1 (wpAny_loadPart')
open PySem.MeetsSeq PySem.MeetsSeq2 PySem.MeetsSeq3
end
def sIx(n d:Nat):ew->Nat
 |none=>d |some v=>if v<0 then(v+(n:Int)).toNat else min v.toNat n
def sIx_none(n d:Nat):sIx n d none=d:=rfl
def sIx_nat(n d k:Nat):sIx n d ↑(k:Int)=min k n:=by
 show(if (k:Int)<0 then((k:Int)+(n:Int)).toNat else min (k:Int).toNat n)=min k n;rw[b3 (by omega),i0]
end HT
namespace L2
open PySem PySem.Spec PyProof.Rows
abbrev TO:=St->Hp->(ew->Hp->Prop)->Prop
def PO(X:Cx)(e:Option Expr)(t:TO):Prop :=
 ∀(pins:e9) (s:Shared) (σ:St) (H:Hp) (Q:ew->Hp->Prop),Inv X pins σ H s->t σ H Q ->
  wpAny (model X.prog X.w) X.A (evalPart e X.env) (λu s'=>∃o H',Inv X pins σ H' s'/\IsPart u o/\Q o H') X.xe s
def x3:TO:=λ_ H Q=>Q none H
def x4(t:TE):TO:=λσ H Q=>t σ H λx H1=>∃i,x=.int i/\Q ↑i H1
def lS{ns:ei}:∀ {us:d5},aL (ns.map V.int) us->IntsAre us ns:=by
 induction ns with
 |nil=>intro us r;rw[dq] at r;cases r;exact .nil
 |cons n ns ih =>
   intro us r;rw[b4] at r;cases r with
   |cons r1 r2 =>
     obtain⟨t,e⟩:=r1;subst e;exact .cons n t (ih r2)
variable{X:Cx}
def x5:PO X none x3:=by
 intro pins s σ H Q I h;rw[evalPart_none];exact cq ⟨none,H,I,.none,h⟩
variable{e:Expr}{te:TE}
def xA(h:PE X e te):PO X ↑e (x4 te):=by
 intro pins s σ H Q I D;rw[evalPart_some];refine aW (h pins s σ H _ I D) λu a S=>?_;obtain⟨x,H1,U,V,Y⟩:=S;obtain⟨i,rfl,q⟩:=Y;obtain⟨t,rfl⟩:=V;exact⟨↑i,H1,U,.int i t,q⟩
variable{lo hi:Option Expr}
def pV(X:Cx)(r:V->ew->ew->Hp->VK->Prop):Prop :=
 ∀(pins:e9) (s:Shared) (σ:St) (H:Hp) (x:V) (v D I:Value) (lo hi:ew) (sl:Addr) (Q:VK),Inv X pins σ H s->RelV x v->s.heap.IsSliceOf sl D I .none->IsPart D lo->IsPart I hi->r x lo hi H Q ->
  ∃T id,typeLookup (.type T) "__getitem__" = pure ↑(.builtin id)/\s.TypeIs v T/\wpAny (model X.prog X.w) X.A (getItem v (.ref sl)) (EP X pins σ Q) X.xe s
def xB(r:V->ew->ew->Hp->VK->Prop)(te:TE)(tl th:TO):TE:=λσ H Q=>te σ H λx H1=>tl σ H1 λl H2=>th σ H2 λu D=>r x l u D Q
variable{r:R2}{tl th:TO}{pos p2:Pos}
def xC{r:V->ew->ew->Hp->VK->Prop}(c:pV X r)(d:PE X e te)(f:PO X lo tl)(g:PO X hi th):PE X (.Subscript e (.Slice lo hi none p2) pos) (xB r te tl th):=by
 intro pins s σ H Q I h;refine Subscript_ (aW (d pins s σ H _ I h) λv i S=>?_);obtain⟨x,H1,j,k,m⟩:=S;refine wpAny_Slice (aW (f pins i σ H1 _ j m) λU s2 S=>?_);obtain⟨l,H2,n,pl,o⟩:=S;refine aW (g pins s2 σ H2 _ n o) λY D S=>?_;obtain⟨u,a,p,t,y⟩:=S;rw[evalPart_none];refine cq ?_;have z:Inv X pins σ a { D with heap:=D.heap.push { cls:=.type "slice",data:=.fields #[U,Y,.none] } }:=p.kept (t':=D.toks) λb E q=>aj _ q;obtain⟨T,id,hT,B,C⟩:=c pins { D with heap:=D.heap.push { cls:=.type "slice",data:=.fields #[U,Y,.none] } } σ a x v U Y l u D.heap.objs.size Q z k (Heap.IsSliceOf.new ..) pl t y;show wpAny (model X.prog X.w) X.A (subscriptTail e (.Slice lo hi none p2) v (.ref D.heap.objs.size)) (EP X pins σ Q) X.xe { D with heap:=D.heap.push { cls:=.type "slice",data:=.fields #[U,Y,.none] } };exact tail_any (ops:=[.ref D.heap.objs.size,v]) B hT C (by with_unfolding_all rfl)
def fW(xs:fe)(lo hi:ew):fe:=(xs.drop (HT.sIx xs.length 0 lo)).take (HT.sIx xs.length xs.length hi-HT.sIx xs.length 0 lo)
def xD(xs:fe)(lo hi:ew):(fW xs lo hi).length<=xs.length:=by
 unfold fW;rw[d6,eo];omega
def eQ(n:Nat)(i:Int):Option Nat:=if 0<=i then(if i<n then ↑i.toNat else none) else if -(n:Int)<=i then ↑(i+n).toNat else none
variable{α:Type}
def bZ(xs:List α)(i:Int):Option α:=(eQ xs.length i).bind λj=>xs[j]?
variable{n:Nat}{i:Int}
def pW{j:Nat}(h:eQ n i=↑j):seqIndex? i n=↑j/\j<n/\-(n:Int)<=i/\i<n:=by
 unfold eQ at h;by_cases D:0<=i
 ·rw[am D] at h
  by_cases h1:i<n
  ·rw[am h1] at h
   have e:i.toNat=j:=bg h;exact⟨by rw[seqIndex_of D h1,e],by omega,by omega,h1⟩
  ·rw[b3 h1] at h;cases h
 ·rw[b3 D] at h
  by_cases h1:-(n:Int)<=i
  ·rw[am h1] at h
   have e:(i+n).toNat=j:=bg h;exact⟨by rw[seqIndex_neg (by omega) h1,e],by omega,h1,by omega⟩
  ·rw[b3 h1] at h;cases h
def zu{xs:List α}{v:α}(h:bZ xs i=↑v):∃j,seqIndex? i xs.length=↑j/\xs[j]?=↑v/\j<xs.length/\-(xs.length:Int)<=i/\i<xs.length:=by
 unfold bZ at h;cases e:eQ xs.length i with
 |none=>rw[e] at h;cases h
 |some j =>
   rw[e] at h;obtain⟨h1,h2,D,I⟩:=pW e;exact⟨j,h1,h,h2,D,I⟩
def uc(b:Expr):Prop:=∀o i,subscripted b false o i=operate [o,i] (getItem o i)
def gR(X:Cx)(r:R2):Prop :=
 ∀(value D:Expr) (pins:e9) (s:Shared) (σ:St) (H:Hp) (x y:V) (v u:Value) (Q:VK),Inv X pins σ H s->RelV x v->RelV y u->r x y H Q ->
  subscripted D false v u=operate [v,u] (getItem v u)->wpAny (model X.prog X.w) X.A (subscriptTail value D v u) (EP X pins σ Q) X.xe s
def xE(X:Cx)(id:String)(r:V->fe->Hp->VK->Prop):Prop :=
 ∀(pins:e9) (s:Shared) (σ:St) (H:Hp) (x:V) (xs:fe) (v:Value) (us:d5) (Q:VK),Inv X pins σ H s->RelV x v->aL xs us->r x xs H Q ->
  wpAny (model X.prog X.w) X.A (call (.builtin id) (v::us)) (EP X pins σ Q) X.xe s
def gR.or{S:R2}(h:gR X r)(h':gR X S):gR X (λx y H Q=>r x y H Q\/S x y H Q):=by
 intro value D pins s σ H x y v u Q I U V q Y;rcases q with q |q
 ·exact h value D pins s σ H x y v u Q I U V q Y
 ·exact h' value D pins s σ H x y v u Q I U V q Y
variable{a b:Expr}{ta tb:TE}
def yp(D:gR X r)(S:PE X a ta)(U:PE X b tb)(V:uc b):PE X (.Subscript a b pos) (kO r ta tb):=by
 intro pins s σ H Q I h;exact Subscript_ (jN S U I h λv u s2 x y H2 Y c d q=>D a b pins s2 σ H2 x y v u Q Y c d q (V _ _))
def jR(K:e5):R2:=λx y H Q=>∃p xs i v,x=.ref p/\y=.int i/\cK K H p xs/\bZ xs i=↑v/\Q v H
def jS(K:e5):R2:=λx y H Q=>∃p xs i v,x=.ref p/\y=.int i/\dA K H p xs/\bZ xs i=↑v/\Q v H
def jT:R2:=λx y H Q=>∃z i c,x=.str z/\y=.int i/\z.length<=sizeLine/\bZ z.cps.toList i=↑c/\Q (.str ⟨#[c]⟩) H
def pX:gR X (jR X.K):=by
 intro value S pins s σ H x y v u Q I c d h Y;obtain⟨p,xs,i,z,rfl,rfl,e,f,q⟩:=h;cases c;obtain⟨t,rfl⟩:=d;obtain⟨its,r,pl,m⟩:=I.list e;obtain⟨j,h1,h2,n,g,k⟩:=zu f;obtain⟨w,a,U⟩:=r.get h2;have l:=r.length;have o:=qp;have D:EP X pins σ Q w s:=⟨z,H,I,U,q⟩;by_cases b:0<=i
 ·have V:i.toNat=j:=by
   rw[seqIndex_of b k] at h1;exact bg h1
  exact item_listR pl.isList b (by omega) (by rw[V];simpa using a) D Y
 ·have V:(i+(its.toArray.size:Int)).toNat=j:=by
   rw[seqIndex_neg (by omega) g] at h1;rw[bp,<-l];exact bg h1
  exact subscriptTail_builtinR (x:=w) pl.isList.typeIs slot_list_getitem.lookup
   (wpAny_getItem_list_neg (Q:=λr s'=>r=w/\EP X pins σ Q r s') pl.isList (by omega) (by rw[bp] <;> omega) (by omega) (by rw[V];simpa using a) ⟨rfl,D⟩) Y
def xF:gR X (jS X.K):=by
 intro value D pins s σ H x y v u Q I V Y h a;obtain⟨p,xs,i,z,rfl,rfl,b,c,q⟩:=h;cases V;obtain⟨t,rfl⟩:=Y;obtain⟨its,r,pl,f⟩:=I.tuple b;obtain⟨j,h1,h2,g,k,l⟩:=zu c;obtain⟨w,d,S⟩:=r.get h2;have e:=r.length;have m:=qp;have U:EP X pins σ Q w s:=⟨z,H,I,S,q⟩;exact subscriptTail_builtinR (x:=w) pl.typeIs slot_tuple_getitem.lookup
  (getItem_tuple (j:=j) (Q:=λr s'=>r=w/\EP X pins σ Q r s') pl (by omega) (by omega) (by rw[bp,<-e];exact h1) (by simpa using d) ⟨rfl,U⟩) a
def xG:gR X jT:=by
 intro value D pins s σ H x y v u Q I S U h V;obtain⟨z,i,c,rfl,rfl,g,Y,q⟩:=h;obtain⟨t,rfl⟩:=S;obtain⟨t',rfl⟩:=U;obtain⟨j,h1,h2,k,a,b⟩:=zu Y;have d:z.cps.toList.length=z.length:=by simp[Str.length]
 rw[d] at h1 a b;have l:=qp;exact tail_any (typeIs_str s z t) slot_str_getitem.lookup (getItem_str (c:=c) (by
  have e:decide (i < -(2 ^ 63:Int))=false:=c9 (by omega);have f:decide (i >= 2 ^ 63)=false:=c9 (by omega);rw[e,f,Bool.or_false]) (by rw[h1];simpa using h2) ⟨.str ⟨#[c]⟩,H,I.tok _,⟨_,rfl⟩,q⟩) V
def pY(K:e5):R2:=λx y H Q=>jR K x y H Q\/jS K x y H Q\/jT x y H Q
def pZ:gR X (pY X.K):=pX.or (xF.or xG)
def xH(its:d5)(n j:Nat)(u:Value):Obj.mapSeq (·.setIfInBounds j u) { cls:=.type "list",data:=.seq its.toArray n }={ cls:=.type "list",data:=.seq (its.set j u).toArray n }:=by
 simp[Obj.mapSeq]
def Inv.lst{pins:e9}{σ:St}{H:Hp}{s:Shared}{p:Addr}{xs:fe}(I:Inv X pins σ H s)(h:H p=↑(.lst xs)) :
  ∃(its:d5) (n:Nat),aL xs its/\s.heap.get? p=some { cls:=.type "list",data:=.seq its.toArray n }/\xs.length<=sizeLine:=by
 obtain⟨z,its,n,r,e⟩:=I.hok p _ h;exact⟨its,n,r,e,z⟩
variable{pins:e9}{σ:St}{H:Hp}{s:Shared}{xs ys:fe}{its its':d5}
def Inv.lstUpd{p:Addr}{D:Nat}{f:Obj->Obj}(I:Inv X pins σ H s)(h:H p=↑(.lst xs))(U:s.heap.get? p=some { cls:=.type "list",data:=.seq its.toArray n })(S:f { cls:=.type "list",data:=.seq its.toArray n }={ cls:=.type "list",data:=.seq its'.toArray D })(r:aL ys its')(V:ys.length<=sizeLine)(t:Nat) :
  Inv X pins σ (aR H p (.lst ys)) { s with heap:=s.heap.update p f,toks:=t }:=by
 have e:(s.heap.update p f).get? p=some { cls:=.type "list",data:=.seq its'.toArray D }:=by
  rw[dz f U (by rw[S] <;> rfl),S]
 refine I.write (x:=p) (e:=p) (by rw[h];trivial) (.inl rfl) (λb u Y q=>(bq _ _ (Ne.symm Y)).trans q) ⟨_,e⟩ ?_;exact⟨V,its',D,r,e⟩
def p_:V->V->V->Hp->(Hp->Prop)->Prop:=λo i v H Q=>∃p xs k j,o=.ref p/\i=.int k/\H p=↑(.lst xs)/\eQ xs.length k=↑j/\Q (aR H p (.lst (xs.set j v)))
def lT:iM X p_:=by
 intro pins s σ H o i v l m u Q I ro d e h;obtain⟨p,xs,k,j,rfl,rfl,V,f,q⟩:=h;cases ro;obtain⟨t,rfl⟩:=d;obtain⟨its,n,r,D,g⟩:=I.lst V;obtain⟨h1,h2,Y,a⟩:=pW f;have S:=r.length;have w:=qp;have b:Inv X pins σ (aR H p (.lst (xs.set j v))) { s with heap:=s.heap.update p (Obj.mapSeq (·.setIfInBounds j u)) } :=
  I.lstUpd V D (xH its n j u) (r.set e j) (by rw[de];exact g) s.toks
 by_cases c:0<=k
 ·have U:k.toNat=j:=by
   rw[seqIndex_of c a] at h1;exact bg h1
  exact PySem.W.ki_setAt D c (by omega) (by rw[bp,<-S];exact a) (by rw[U];exact⟨_,b,q⟩)
 ·have U:(k+(its.toArray.size:Int)).toNat=j:=by
   rw[seqIndex_neg (by omega) Y] at h1;rw[bp,<-S];exact bg h1
  exact PySem.W.ki_setBack D (by omega) (by rw[bp,<-S];exact Y) (by omega) (by rw[U];exact⟨_,b,q⟩)
def xI(lo hi:ew)(n:Nat):(sliceBounds lo hi none n).1=((HT.sIx n 0 lo:Nat):Int)/\(sliceBounds lo hi none n).2.1=((HT.sIx n n hi:Nat):Int)/\(sliceBounds lo hi none n).2.2=1:=by
 refine⟨?_,?_,rfl⟩
 ·cases lo with
  |none=>simp[sliceBounds,HT.sIx] |some i =>
    simp only[sliceBounds,HT.sIx,Option.getD_none,show(1:Int) > 0 by decide,d7];by_cases h:i<0
    ·simp only[h,d7] <;> omega
    ·simp only[h,fo] <;> omega
 ·cases hi with
  |none=>simp[sliceBounds,HT.sIx] |some i =>
    simp only[sliceBounds,HT.sIx,Option.getD_none,show(1:Int) > 0 by decide,d7];by_cases h:i<0
    ·simp only[h,d7] <;> omega
    ·simp only[h,fo] <;> omega
def xJ(its:d5)(lo hi:ew):slicePick its.toArray lo hi none=((its.drop (HT.sIx its.length 0 lo)).take (HT.sIx its.length its.length hi-HT.sIx its.length 0 lo)).toArray:=by
 obtain⟨h1,h2,D⟩:=xI lo hi its.toArray.size;unfold slicePick;rw[h1,h2,D];simp only[sliceRange_one,pick_run,bp] <;> rfl
def lU(K:e5):V->ew->ew->Hp->VK->Prop:=λx lo hi H Q=>∃a xs,x=.ref a/\cK K H a xs/\∀p,H p=none->Q (.ref p) (aR H p (.lst (fW xs lo hi)))
def xM:pV X (lU X.K):=by
 intro pins s σ H x v e f lo hi sl Q I U V pl Y h;obtain⟨a,xs,rfl,c,q⟩:=h;cases U;obtain⟨its,r,S,d⟩:=I.list c;have D:=r.length;refine⟨"list",_,slot_list_getitem.lookup,S.isList.typeIs,?_⟩;refine wpAny_getItem_list_slice S.isList V pl Y .none ⋯ ?_ (by rw[bp] <;> omega);rw[xJ,<-D];refine⟨.ref s.heap.objs.size,_,I.laid (t':=s.toks) (o:=.lst (fW xs lo hi)) (λb g q=>aj _ q) (bn _) ?_,rfl,q _ (I.hok.fresh (bn _))⟩;exact⟨b5 (xD xs lo hi) d,_,0,(r.drop (HT.sIx xs.length 0 lo)).take (HT.sIx xs.length xs.length hi-HT.sIx xs.length 0 lo),b9 _ rfl⟩
def qq:l4 X (.builtin "len") (λxs H Q=>∃p ys,xs=[.ref p]/\(cK X.K H p ys\/dA X.K H p ys)/\Q ↥ys.length H):=by
 intro pins s σ H xs us Q I r h;obtain⟨p,ys,rfl,hq,q⟩:=h;obtain⟨u,rfl,U⟩:=qo r;cases U;have Y:=qp;rcases hq with hq |hq
 ·obtain⟨its,S,pl,V⟩:=I.list hq
  have D:=S.length;exact Calls.call_len_list pl.isList (by simp only[bp] <;> omega) ⟨.int ys.length,H,I.tok _,⟨s.toks+1,by rw[bp,D]⟩,q⟩
 ·obtain⟨its,S,pl,V⟩:=I.tuple hq
  have D:=S.length;exact len_tuple pl (by simp only[bp] <;> omega) ⟨.int ys.length,H,I.tok _,⟨s.toks+1,by rw[bp,D]⟩,q⟩
def xN:l4 X (.type "list") (λxs H Q=>∃p ys,xs=[.ref p]/\(cK X.K H p ys\/dA X.K H p ys)/\∀l,H l=none->Q (.ref l) (aR H l (.lst ys))):=by
 intro pins s σ H xs us Q I r h;obtain⟨p,ys,rfl,hq,q⟩:=h;obtain⟨u,rfl,f⟩:=qo r;cases f;have U:∀(its:d5),aL ys its->ys.length<=sizeLine->∀(h':Heap) (D:Nat),(∀b o',s.heap.get? b=↑o'->h'.get? b=↑o') ->
   h'.get? s.heap.objs.size=some { cls:=.type "list",dict:=none,data:=.seq its.toArray D,slots:=#[] }->EP X pins σ Q (.ref s.heap.objs.size) { s with heap:=h' }:=λits S V h' D Y e =>
  ⟨.ref s.heap.objs.size,_,I.laid (t':=s.toks) Y (bn _) (show bC X.prog X.w _ h' _ (.lst ys) from⟨V,its,D,S,e⟩),rfl,q _ (I.hok.fresh (bn _))⟩
 rcases hq with hq |hq
 ·obtain⟨its,S,pl,V⟩:=I.list hq
  have a:=S.length;obtain⟨o,c,d,n,hd⟩:=pl.isList;exact call_list_seq p (.inl rfl) c d hd (λh' D Y e=>U its S V h' D Y e) (by simp only[bp] <;> omega)
 ·obtain⟨its,S,pl,V⟩:=I.tuple hq
  have a:=S.length;obtain⟨o,c,d,n,hd⟩:=pl;exact call_list_seq p (.inr rfl) c d hd (λh' D Y e=>U its S V h' D Y e) (by simp only[bp] <;> omega)
def xO:l4 X (.type "tuple") (λxs H Q=>∃p ys,xs=[.ref p]/\((cK X.K H p ys/\∀l,H l=none->Q (.ref l) (aR H l (.tup ys)))\/(dA X.K H p ys/\Q (.ref p) H))):=by
 intro pins s σ H xs us Q I r h;obtain⟨p,ys,rfl,h⟩:=h;obtain⟨u,rfl,a⟩:=qo r;cases a;rcases h with⟨D,q⟩ | ⟨D,q⟩
 ·obtain⟨its,S,pl,U⟩:=I.list D
  have V:=S.length;refine call_tuple_list pl.isList (λh' c=>?_) (by simp only[bp] <;> omega);have Y:Inv X pins σ H { s with heap:=h' }:=I.kept (t':=s.toks) c;have d:Inv X pins σ (aR H h'.objs.size (.tup ys)) { s with heap:=h'.push { cls:=.type "tuple",data:=.seq its.toArray } } :=
   Y.laid (t':=s.toks) (λb o e=>aj _ e) (bn _) (show bC X.prog X.w _ _ _ (.tup ys) from⟨U,its,S,IsTup.new _ _⟩)
  exact⟨.ref h'.objs.size,_,d,rfl,q _ (Y.hok.fresh (bn _))⟩
 ·obtain⟨its,S,pl,U⟩:=I.tuple D
  exact call_tuple_same pl ⟨.ref p,H,I,rfl,q⟩
def q5(K:e5)(T:String)(x:V)(H:Hp):Prop:=match x with
 | .str _=>T = "str" | .int _=>T = "int" | .ref p=>(T = "list"/\∃xs,cK K H p xs)\/(T = "tuple"/\∃o,K.lookup p=↑o/\o.cls=.type "tuple"/\o.dict=none) \/
    (T = "dict"/\((∃D,H p=↑(.dK D))\/∃D,H p=↑(.dT D)))\/(T = "set"/\∃S n,H p=↑(.set S n))
 |_=>False
variable{T:String}{x:V}
def xP{v:Value}(I:Inv X pins σ H s)(r:RelV x v)(U:q5 X.K T x H) :
  s.TypeIs v T/\∀a,v=.ref a->∃b,s.heap.get? a=↑b/\b.dict=none:=by
 cases x with
 |str z =>
   obtain⟨t,rfl⟩:=r;cases (show T = "str" from U);exact⟨typeIs_str s z t,λ_ e=>nomatch e⟩
 |int i =>
   obtain⟨t,rfl⟩:=r;cases (show T = "int" from U);exact⟨typeIs_int s i t,λ_ e=>nomatch e⟩
 |ref p =>
   cases r;rcases U with⟨rfl,xs,d⟩ | ⟨rfl,o,D,hc,hd⟩ | ⟨rfl,D⟩ | ⟨rfl,S,n,D⟩
   ·obtain⟨its,_,pl,_⟩:=I.list d
    refine⟨pl.isList.typeIs,λa e=>?_⟩;cases e;obtain⟨o,n,e,c,hd,_⟩:=pl;exact⟨o,e,hd⟩
   ·refine⟨⟨o,I.kIn p o D,hc⟩,λa e=>?_⟩
    cases e;exact⟨o,I.kIn _ o D,hd⟩
   ·have z:∃o,s.heap.get? p=↑o/\o.ExactDict:=by
     rcases D with⟨V,D⟩ | ⟨V,D⟩
     ·obtain⟨_,_,_,_,o,_,_,e,ex,_⟩:=I.hok p _ D
      exact⟨o,e,ex⟩
     ·obtain⟨_,_,_,_,o,_,_,e,ex,_⟩:=I.hok p _ D
      exact⟨o,e,ex⟩
    obtain⟨o,e,ex⟩:=z;refine⟨⟨o,e,ex.1⟩,λa Y=>?_⟩;cases Y;exact⟨o,e,ex.2.1⟩
   ·obtain⟨o,_,_,_,e,ex,_⟩:=I.hok p _ D
    refine⟨⟨o,e,ex.1⟩,λa Y=>?_⟩;cases Y;exact⟨o,e,ex.2.1⟩
 |_=>exact False.elim U
def qA(K:e5)(T:String)(r:V->fe->Hp->VK->Prop)(to:TE)(t:TA):TE:=λσ H Q=>to σ H λx H1=>q5 K T x H1/\t σ H1 λxs H2=>r x xs H2 Q
variable{r:V->fe->Hp->VK->Prop}{o:Expr}{es:er}{to:TE}{t:TA}{name:Str}{apos cpos:Pos}{id:String}
def u8(d:PlainAttrs T)(V:Slot T name id)(a:typeOf (.builtin id)=pure (.type "method_descriptor"))(f:xE X id r)(g:PE X o to)(i:PA X (e::es) t)(S:‹attributeBase o name X.env (eval o X.env)=eval o X.env›)(Y:((backTo cpos (starEach (e::es) X.env)).all (λx=>!x.1) && (backToKw cpos (keywordEach [] X.env)).all (λx=>x.1.isSome)
   && decide ((e::es).length+([]:List Keyword).length+(if ([]:List Keyword).isEmpty then 0 else 1)<30))=true:=by rfl)(U:‹(apos.endLine==cpos.line)=true›)(j:‹starEach (e::es) X.env=(false,eval e X.env)::starEach es X.env›)(D:‹(backTo cpos (starEach es X.env)).any (·.1)=false›) :
  PE X (.Call (.Attribute o name apos) (e::es) [] cpos) (qA X.K T r to t):=by
 intro pins s σ H Q I h;refine wpAny_Call_method_late S Y U rfl (aW (g pins s σ H _ I h) λv k l=>?_);obtain⟨x,H1,b,c,m,n⟩:=l;obtain⟨h1,h2⟩:=xP b c m;refine⟨T,id,d,V,a,h1,h2,?_⟩;have hA:=i cpos pins k σ H1 _ b n;rw[j] at hA ⊢;refine Calls.callWith_builtin (by show(false || (backTo cpos (starEach es X.env)).any (·.1))=false;rw[D] <;> rfl) (Calls.evalArgs_plain ?_);exact aW hA λus s2 ⟨vs,H2,I2,r2,q2⟩=>f pins s2 σ H2 x vs v us Q I2 c r2 q2
def lV(X:Cx)(id:String)(r:V->fe->Hp->VK->Prop):Prop :=
 ∀(pins:e9) (s:Shared) (σ:St) (H:Hp) (x:V) (xs:fe) (v:Value) (us:d5) (Q:VK),Inv X pins σ H s->RelV x v->aL xs us->r x xs H Q ->
  wpAny (model X.prog X.w) X.A (call (.builtin id) (v::us)) (EP X pins σ Q) X.xe s
def lX:fe->d5->Prop
 | [],us=>us=[] |x::xs,us=>∃u t,us=u::t/\RelV x u/\aL xs t
variable{us:d5}
def aL.inv(h:aL xs us):lX xs us:=by
 cases h with
 |nil=>exact rfl |cons r t=>exact⟨_,_,rfl,r,t⟩
def aL.one(h:aL [x] us):∃u,us=[u]/\RelV x u:=by
 obtain⟨u,t,e,r,q⟩:=h.inv;exact⟨u,(show t=[] from q.inv) ▸ e,r⟩
variable{t':Nat}{l:Addr}
def Inv.lset{f:fc->fc}(I:Inv X pins σ H s)(D:H l=↑(.lst xs))(e:s.heap.get? l=some { cls:=.type "list",data:=.seq its.toArray n })(S:f its.toArray=its'.toArray)(U:aL ys its')(V:ys.length<=sizeLine) :
  Inv X pins σ (aR H l (.lst ys)) { s with heap:=s.heap.update l (Obj.mapSeq f),toks:=t' }:=by
 have q:=PySem.IsL.update e f;rw[S] at q;refine I.write (x:=l) (e:=l) (by rw[D];exact trivial) (.inl rfl) (λb u Y a=>(bq s.heap (Obj.mapSeq f) (Ne.symm Y)).trans a) ⟨_,q⟩ ?_;exact⟨V,its',_,U,q⟩
def Inv.lnew(I:Inv X pins σ H s)(D:aL ys its)(S:ys.length<=sizeLine) :
  Inv X pins σ (aR H s.heap.objs.size (.lst ys)) { s with heap:=s.heap.push { cls:=.type "list",data:=.seq its.toArray },toks:=t' } :=
 I.laid (λ_ _ q=>aj _ q) (bn _) ⟨S,its,0,D,b9 _ rfl⟩
def Inv.fresh(I:Inv X pins σ H s):H s.heap.objs.size=none:=I.hok.fresh (bn _)
def Inv.lstM(I:Inv X pins σ H s)(D:H l=↑(.lst xs)):xs.length<=sizeLine/\∃(its:d5) (n:Nat),aL xs its/\xs.length=its.length/\s.heap.get? l=some { cls:=.type "list",data:=.seq its.toArray n }:=by
 obtain⟨z,its,n,r,e⟩:=I.hok l _ D;exact⟨z,its,n,r,r.length,e⟩
def xS(h:n<=sizeLine):Builtin.List.listTooLong n=false:=by
 unfold Builtin.List.listTooLong;exact c9 (by omega)
def xT:V->fe->Hp->VK->Prop:=λx vs H Q=>∃l xs y,x=.ref l/\vs=[y]/\H l=↑(.lst xs)/\xs.length<sizeLine/\Q .non (aR H l (.lst (xs++[y])))
theorem qB:lV X "list.append" xT:=by
 intro pins s σ H x vs v us Q I S U h;obtain⟨l,xs,y,rfl,rfl,D,Y,q⟩:=h;cases S;obtain⟨u,rfl,V⟩:=U.one;obtain⟨z,its,n,r,a,e⟩:=I.lstM D;refine call_meets F.slot_list_append ⟨_,e,rfl⟩ F.entry_list_append (F.args_list_append_2 _ _) (PySem.list_append l its.toArray n u (by rw[bp];omega)) ⟨e,?_⟩;refine⟨.non,_,I.lset (its':=its++[u]) D e ⋯ (r.append (.cons V .nil)) ?_,rfl,q⟩;rw[bd,e7];omega
def xU:V->fe->Hp->VK->Prop:=λx vs H Q=>∃l b xs D,x=.ref l/\vs=[.ref b]/\H l=↑(.lst xs)/\H b=↑(.lst D)/\xs.length+D.length<=sizeLine/\Q .non (aR H l (.lst (xs++D)))
theorem xV:lV X "list.extend" xU:=by
 intro pins s σ H x vs v us Q I Y a h;obtain⟨l,b,xs,k,rfl,rfl,V,c,m,q⟩:=h;cases Y;obtain⟨u,rfl,d⟩:=a.one;cases d;obtain⟨z,its,n,r,o,e⟩:=I.lstM V;obtain⟨p,D,f,g,i,j⟩:=I.lstM c;have U:its.toArray.size+D.toArray.size<=sizeLine:=by rw[bp,bp];omega
 have S:¬(!its.toArray.isEmpty && Builtin.List.listTooLong (its.toArray.size+D.toArray.size))=true:=by
  rw[xS U,Bool.and_false];exact b7
 refine call_meets F.slot_list_extend ⟨_,e,rfl⟩ F.entry_list_extend (F.args_list_extend_2 _ _)
  (AutoSeq1.list_extend_list_list_0 l its.toArray n b D.toArray f S (by rw[bp];omega) (by omega)) ⟨e,j,?_⟩
 refine⟨.non,_,I.lset (its':=its++D) V e ⋯ (r.append g) ?_,rfl,q⟩;rw[bd];omega
end L2
namespace Att
open PySem PySem.W PySem.Calls PyProof.Rows
variable{P:Params}{h:Heap}
def xW:∀(ns:ei) (vs:d5),WellAll P h vs (ns.map WData.int)->IntsAre vs ns:=by
 intro ns;induction ns with
 |nil =>
   intro vs w;rw[dq] at w;cases w;exact .nil
 |cons n ns ih =>
   intro vs w;rw[b4] at w;cases w with
   |cons a b =>
     cases a;exact .cons _ _ (ih _ b)
variable{l:OpenLaw}{n:Nat}
def xX(e:l.most=↑n){args:List WData}{D:d5}(I:l.row.toRowW.claim.pre args=true)(Y:WellAll P h D args) :
  ∃a vs ns,D=[Value.ref a]/\args=[WData.list (ns.map WData.int)]/\h.get? a=some { cls:=.type "list",data:=.seq vs.toArray }/\IntsAre vs ns/\ns.length<=n:=by
 have b:WShape.hasAll [] args [.list .int]=true:=(pre_splitW I).1;have c:l.pre.holds [] { args:=args }=true:=(pre_splitW I).2;obtain⟨d,r,rfl,h1,h2⟩:=hasAllW_cons b;obtain rfl:=hasAllW_nil h2;obtain⟨xs,rfl,f⟩:=hasW_list h1;obtain⟨ns,rfl⟩:=items_int f;have S:ns.length<=n:=by
  unfold OpenLaw.pre at c;have U:(WTm.not (.lt (.lit ↥(n:Int)) (.len (.arg 0)))).holds [] { args:=[.list (ns.map .int)] }=true:=by
   have U:=(holds_andW c).1;rw[e] at U;exact U
  have V:=condW_of U (w_not (w_lt w_lit (w_len_list (w_arg rfl))));rw[af] at V;refine gn λq=>?_;have g:(n:Int)<((ns.length:Nat):Int):=by omega
  first
   | (rw[j2 g] at V;exact absurd V (by decide))
   | (simp at V;omega)
 cases Y with
 |cons w1 w2 =>
   cases w2;cases w1 with
   |list ho hall=>exact⟨_,_,ns,rfl,rfl,ho,xW ns _ hall,S⟩
def xY(l:OpenLaw)(args:List WData):l.row.toRowW.claim.post args (.bool true) args=true :=
 postW_of (r:=l.row.toRowW) (X:=(true==true))
  (show WShape.has [] (.bool true) .bool=true by first |rfl |decide |simp[WShape.has,WShape.arms,WShape.armsAll])
  (show(WTm.eq .res (.lit (.bool true))).value [] { args:=args,res:=↑(.bool true),after:=args }=↑(.bool (true==true)) from w_eq_bool (w_res rfl) w_lit) rfl
def attach_call{q:Program}{I:d3}{s:(Str->eb)->Heap->Prop}{t:World->Heap->Prop}{d:DefRec}(y:l.most=↑n)(h:d.params.defaults=[])(call:∀(w:World) (s₀ D:Shared) (mg i:Str->eb) (V:Addr) (o:Obj) (j g S:Value) (a:Addr) (vs:d5) (ns:ei),
   Ground q I [] s w s₀ mg i D.heap->t w D.heap ->
   D.heap.get? V=↑o->o.data=.func (docDef d.name d.params d.body d.scope j g S)->D.heap.CodeRec g d.name->mg d.name=↑(.ref V) ->
   D.heap.get? a=some { cls:=.type "list",data:=.seq vs.toArray }->IntsAre vs ns->ns.length<=n->D.gens=#[] ->
   codeAny (model l.prog w) callerA (.call (.ref V) ⟨[.ref a],[]⟩) (λr s'=>r=.ok (.ret (.bool true))/\OldK D.heap s'.heap/\s'.os=D.os/\AllBare s'.gens) D) :
  WalkO q I s t l.row.toRowW d [] (λf vs=>PySem.call f vs):=by
 intro w s₀ D mg i G Y V o j g S z kV A hd k u m B args v as b x C p E;obtain rfl:z=.none:=Dflts.none u h;obtain rfl:kV=.none:=Dflts.noKw u;obtain⟨a,vs,ns,rfl,rfl,c,U,e⟩:=xX y b p;refine enter_call (i5 (call w s₀ D mg i V o j g S a vs ns G Y A (fd_plain hd) k m c U e B) λr s' F=>?_);obtain⟨rfl,h2,H,J⟩:=F;exact⟨.inl ⟨.bool true,.bool true,[],rfl,λ_=>rfl,.bool true,xY l _,λ_=>⟨List.Pairwise.nil,λ_ K=>(nomatch K)⟩⟩,h2,H,J⟩
end Att
namespace L2
open PySem PySem.Spec PyProof.Rows
def qC:∀ {vs:d5} {ns:ei},IntsAre vs ns->aL (ns.map V.int) vs
 |_,_,.nil=>.nil |_,_,.cons n t h=>.cons ⟨t,rfl⟩ (qC h)
def iP(H:Hp):Prop:=∀b,H b=none\/∃o xs,H b=↑(.frz o (.lst xs))
variable{w:World}{K:e5}{k:Nat}{a:Addr}{x:Str}{vs:d5}
def xZ{P:Program}{mg C:Str->eb}{CX:fN}{E:Addr}{fd:FuncData}{sp:Sp}{D:Shared}{ns:ei}(N:K.In D.heap)(f:D.heap.Ns mainGlobals mg)(S:D.heap.Ns builtinsNs C)(G:∀x:Str,x ≠ "__name__"->C x=bootBuiltins x)(g:D.heap.NoLimit)(W:D.gens=#[])(B:D.heap.get? a=some { cls:=.type "list",data:=.seq vs.toArray })(hi:IntsAre vs ns)(O:ns.length<=sizeLine)(X:aP k callerA)(F:∀base:Heap,K.In base->base.Ns mainGlobals mg->bD P w K mg base CX k E fd [x] sp)(c:∀(s:Shared) (u:Value),BindsTo s fd ⟨[u],[]⟩ [(x,u)])(J:∀H:Hp,iP H->cK K H a (ns.map V.int)->sp [.ref a] H (λv _=>v=.bl true) λ_ _ _=>False)(L:∀H e s',CX [] H D (λ_ _ _=>False) e s'->False) :
  codeAny (model P w) callerA (.call (.ref E) ⟨[.ref a],[]⟩) (λr s'=>r=.ok (.ret (.bool true))/\OldK D.heap s'.heap/\s'.os=D.os/\AllBare s'.gens) D:=by
 have Q:=qC hi;have i:=hi.length;have Y:∀H:Hp,iP H->cK K H a (ns.map V.int)->dL P w H D.heap->(∀b,H b≠none->b=a)->(H a≠none->K.lookup a=none) ->
   codeAny (model P w) callerA (.call (.ref E) ⟨[.ref a],[]⟩) (λr s'=>r=.ok (.ret (.bool true))/\OldK D.heap s'.heap/\s'.os=D.os/\AllBare s'.gens) D:=by
  intro H R Z j hA hK;have I:∀ {b:Addr} {o:Obj},D.heap.get? b=↑o->H b=none->(eM D.heap H).get? b=↑o:=λe n=>uX e n;have M:∀ {b:Addr} {o:Obj} {es:Array DictEntry} {l:Nat},D.heap.get? b=↑o->o.data=.dict es l->H b=none:=λ{b o es l} e d=>by
   cases q:H b with
   |none=>rfl |some u =>
     have e':b=a:=hA b (by rw[q];simp);subst e';rw[B] at e;cases e;have d':Data.seq vs.toArray _=Data.dict es l:=d;cases d'
  have U:∀ {b:Addr} {m:Str->eb},D.heap.Ns b m->(eM D.heap H).Ns b m:=λ{b m} ⟨o,es,l,e,d,r⟩=>⟨o,es,l,I e (M e d),d,r⟩;have p:K.In (eM D.heap H):=λb o e=>I (N b o e) (by
   cases q:H b with
   |none=>rfl |some u =>
     have e':b=a:=hA b (by rw[q];simp);subst e';rw[hK (by rw[q];simp)] at e;cases e)
  have hM:Mod K mg (eM D.heap H):=⟨p,U f,⟨C,U S,G⟩,let ⟨mc,h1,h2⟩:=g;⟨mc,U h1,h2⟩⟩;have e0:eO P w K mg (eM D.heap H) callerA [] D H:=⟨rfl,hM,λb o e=>uY e,Nat.le_of_eq (uW _ _),trivial,λb S=>absurd (show b∈([]:ed) from S) ⋯,j,.of_eq W⟩;refine i5 ((F _ p (U f)).run callerA [] D H ⟨[.ref a],[]⟩ [.ref a] [.ref a] _ _ X e0 (c D (.ref a)) (.cons rfl .nil) (J H R Z)) λr s' h=>?_;cases r with
  |error e=>exact(L H e s' h).elim |ok fl =>
    cases fl with
    |next=>exact False.elim h |brk=>exact False.elim h |cont=>exact False.elim h |ret u =>
      obtain⟨v,H',os,t,un,y,r',q⟩:=h;have q':v=.bl true:=q;subst q';obtain rfl:u=Value.bool true:=r';refine⟨rfl,OldK.of_keep λb o e=>?_,os,t⟩;cases q:H b with
      |none=>exact un.keep b o e q (by intro z;exact absurd (show b∈([]:ed) from z) ⋯) ⋯
      |some u =>
        rcases R b with z | ⟨ob,xs,z⟩
        ·rw[q] at z;cases z
        ·have z2:=un.frzs b ob _ z
         obtain⟨T,_⟩:=j b _ z;obtain⟨e2,_⟩:=y b _ z2;rw[e] at T;cases T;exact e2
 cases hk:K.lookup a with
 |some o =>
   have e:=N a o hk;rw[B] at e;cases e;refine Y (λ_=>none) (λ_=>.inl rfl) (.inr ⟨_,vs.toArray,_,hk,rfl,rfl,rfl,by rw[bp,i];exact O,by simpa using Q⟩) (λb u z=>by have A:(none:Option HO)=↑u:=z;cases A) (λb z=>absurd rfl z) λz=>absurd rfl z
 |none =>
   refine Y (λb=>if b=a then ↑(.frz { cls:=.type "list",data:=.seq vs.toArray } (.lst (ns.map V.int))) else none) (λb=>?_) (.inl (.inr ⟨{ cls:=.type "list",data:=.seq vs.toArray },am rfl⟩)) (λb u z=>?_) (λb z=>?_) λ_=>hk
   ·by_cases S:b=a
    ·exact .inr ⟨_,_,am S⟩
    ·exact .inl (b3 S)
   ·by_cases S:b=a
    ·have A:=(am S).symm.trans z
     cases A;subst S;exact⟨B,by rw[af];exact O,vs,_,Q,B⟩
    ·have A:=(b3 S).symm.trans z
     cases A
   ·by_cases S:b=a
    ·exact S
    ·exact absurd (b3 S) z
variable{l:Addr}{n:Nat}{q:FT}{d:D}
def x_{l:PySem.W.OpenLaw}{q:Program}{I:d3}{A:(Str->eb)->Heap->Prop}{y:World->Heap->Prop}{d:DefRec}{K:Params->e5}{CX:World->fN}{sp:World->Sp}(B:l.most=↑n)(j:n<=sizeLine)(m:d.params.defaults=[])(C:aP k callerA)(E:∀(w:World) (h:Heap),y w h->(K w.params).In h)(F:∀(w:World) (mg:Str->eb) (i:Addr) (h:Heap),(K w.params).In h->h.Ns mainGlobals mg->mg d.name=↑(.ref i) ->
   ∃fd:FuncData,(∀(s:Shared) (u:Value),BindsTo s fd ⟨[u],[]⟩ [(x,u)]) /\
    ∀base:Heap,(K w.params).In base->base.Ns mainGlobals mg->bD l.prog w (K w.params) mg base (CX w) k i fd [x] (sp w))(p:∀(w:World) (H:Hp) (a:Addr) (ns:ei),ns.length<=n->iP H->cK (K w.params) H a (ns.map V.int)->sp w [.ref a] H (λv _=>v=.bl true) λ_ _ _=>False)(r:∀(w:World) (H:Hp) (s:Shared) (e:Value) (s':Shared),CX w [] H s (λ_ _ _=>False) e s'->False) :
  PySem.W.WalkO q I A y l.row.toRowW d [] (λf vs=>PySem.call f vs):=by
 refine Att.attach_call B m λw s₀ U mg R i o X Z J a vs ns G Y ho hd L t c S D M=>?_;have z:=E w _ Y;obtain⟨fd,N,O⟩:=F w mg i _ z G.T.g t;exact xZ z G.T.g G.T.b G.T.builtins G.T.nolimit M c S (b5 D j) C O N (λH P Q=>p w H a ns D P Q) λH e s'=>r w H U e s'
def oy(s:Stmt):Arguments:=match s with
 | .FunctionDef _ a _ _ _ _ _ _ _ _=>a |_=>{ posonlyargs:=[],args:=[],vararg:=none,kwonlyargs:=[],kw_defaults:=[],kwarg:=none,defaults:=[] }
def jg(s:Stmt):List Stmt:=match s with
 | .FunctionDef _ _ b _ _ _ _ _ _ _=>b |_=>[]
def d4(s:Stmt):Scope:=match s with
 | .FunctionDef _ _ _ _ _ _ sc _ _ _=>sc |_=>{ kind:=.function,names:=[],isGenerator:=false,isCoroutine:=false }
abbrev bO:fN:=λ_ _ _ _ _ _=>False
abbrev E0:XK:=λ_ _ _=>False
variable{X:Cx}
def qD:zf bO X E0:=λ_ _ _ _ _ _ _ h=>h.elim
structure fA (K:e5) (x qual:Str) (st:Stmt) (f:Addr) (fd:FuncData):Prop where
 ex:∃(oc:Value) (od:Option Addr) (kV doc pm:Value) (an:Option Addr) (cdv ct:Value) (osl:Array eb),
  fd=PySem.W.fnOf x qual (oy st) (jg st) (d4 st) .none kV doc pm an cdv ct/\K.lookup f=↑⟨oc,od,.func fd,osl⟩/\PySem.W.codeIn K cdv qual=true
 kp:PySem.W.keepIn K (.ref f)=true
variable{f:FE}
def zb{qual:Str}{st:Stmt}{f:Addr}{oc:Value}{od an:Option Addr}{osl:Array eb}{kV D I cdv ct:Value}(l:K.lookup f=↑⟨oc,od,.func (PySem.W.fnOf x qual (oy st) (jg st) (d4 st) .none kV D I an cdv ct),osl⟩)(c:PySem.W.codeIn K cdv qual=true)(k:PySem.W.keepIn K (.ref f)=true):fA K x qual st f (PySem.W.fnOf x qual (oy st) (jg st) (d4 st) .none kV D I an cdv ct):=⟨⟨oc,od,kV,D,I,an,cdv,ct,osl,rfl,l,c⟩,k⟩
variable{A:Around}
def y1(D:aP k A):A.units+1<cLine:=kn (Nat.add_le_add_left (by decide:1<=64) _) D.units
def aU(H H':Hp):Prop:=∀b o,H b=↑o->H' b=↑o
def aU.refl(H:Hp):aU H H:=λ_ _ h=>h
variable{H H1 H2:Hp}
def aU.trans(a:aU H H1)(b:aU H1 H2):aU H H2:=λc o h=>b c o (a c o h)
variable{H':Hp}
def aU.free(e:aU H H')(h:H' l=Option.none):H l=Option.none:=by
 cases q:H l with
 |none=>rfl |some o =>
   rw[e l o q] at h;cases h
def lY{env:Env}:∀(names:List (Str×NameKind)) (D:List (Str×Addr)),
  (∀y∈names,y.2=.free->∃c,env.cells.lookup y.1=↑c)->(∀y c,D.lookup y=↑c->env.cells.lookup y=↑c) ->
  ∃cl,(forIn names D λ(x:Str×NameKind) (cs:List (Str×Addr))=>if (x.2==NameKind.free)=true then(do let c <-cellOf env x.1;pure (ForInStep.yield ((x.1,c)::cs)):Sem _) else pure (ForInStep.yield cs))=pure cl /\
   (∀y c,cl.lookup y=↑c->env.cells.lookup y=↑c)/\(∀y c,D.lookup y=↑c->∃S,cl.lookup y=↑S)/\∀y∈names,y.2=.free->∃c,cl.lookup y.1=↑c
 | [],D,_,ha=>⟨D,rfl,ha,λy c e=>⟨c,e⟩,λ_ h=>nomatch h⟩ | (n,k)::r,D,hn,ha=>by
   by_cases V:k=.free
   ·subst V
    obtain⟨c,a⟩:=hn (n,.free) ay rfl;obtain⟨cl,e,h1,h2,Y⟩:=lY r ((n,c)::D) (λy hy=>hn y (ai _ hy)) (λy S e=>by
     rw[bw] at e;cases hq:y==n with
     |true=>rw[hq] at e;cases e;rw[eq_of_beq hq];exact a
     |false=>rw[hq] at e;exact ha y S e)
    have I:List.lookup n ((n,c)::D)=↑c:=by simp[bw]
    refine⟨cl,?_,h1,λy S e'=>?_,λy hy U=>?_⟩
    ·rw[List.forIn_cons]
     have b:cellOf env n=pure c:=by unfold cellOf;rw[a]
     simp only[jc,d7,b,pure_bind];exact e
    ·cases hq:y==n with
     |true=>rw[eq_of_beq hq];exact h2 n c I |false=>exact h2 y S (by rw[bw,hq];exact e')
    ·rcases bz.mp hy with rfl |hy
     ·exact h2 n c I
     ·exact Y y hy U
   ·obtain⟨cl,e,h1,h2,Y⟩:=lY r D (λy hy=>hn y (ai _ hy)) ha
    refine⟨cl,?_,h1,h2,λy hy U=>?_⟩
    ·rw[List.forIn_cons]
     have d:(k==NameKind.free)=false:=by cases k <;> first |rfl |exact absurd rfl V
     simp only[d,cw,fo,pure_bind];exact e
    ·rcases bz.mp hy with rfl |hy
     ·exact absurd U V
     ·exact Y y hy U
variable{sc:Scope}{env:Env}
def qE(h:∀y∈sc.names,y.2=.free->∃c,env.cells.lookup y.1=↑c) :
  ∃cl,closureFor sc env=pure cl/\(∀y c,cl.lookup y=↑c->env.cells.lookup y=↑c)/\∀y∈sc.names,y.2=.free->∃c,cl.lookup y.1=↑c:=by
 obtain⟨cl,e,h1,_,D⟩:=lY (env:=env) sc.names [] h (λy c e=>by simp at e);refine⟨cl,?_,h1,D⟩;unfold closureFor;rw[show(pure cl:Sem _)=(pure cl >>= λcs=>pure cs) by rw[pure_bind],<-e]
def lZ{env:Env}:∀ {names:List (Str×NameKind)} {x:Str} {k:NameKind},
  (names.map λ(n,k)=>if (k==NameKind.free && env.scope.kind==.function && env.kindOf n==some .cell) then(n,NameKind.cell) else(n,k)).lookup x=↑k ->
  names.lookup x=↑k\/(names.lookup x=some .free/\k=.cell)
 | (n,k0)::r,x,k,h=>by
   have I:=@lZ env r x k;have h:List.lookup x ((if (k0==NameKind.free && env.scope.kind==.function && env.kindOf n==some .cell)=true then(n,NameKind.cell) else(n,k0))::_)=_:=h;cases hx:x==n with
   |true =>
     by_cases D:(k0==NameKind.free && env.scope.kind==.function && env.kindOf n==some .cell)=true
     ·rw[am D] at h
      simp only[bw,hx] at h ⊢;simp only[df,im] at D;cases h;exact .inr ⟨by rw[D.1.1],rfl⟩
     ·rw[b3 D] at h
      simp only[bw,hx] at h ⊢;exact .inl h
   |false =>
     by_cases D:(k0==NameKind.free && env.scope.kind==.function && env.kindOf n==some .cell)=true
     ·rw[am D] at h
      simp only[bw,hx] at h ⊢;exact I h
     ·rw[b3 D] at h
      simp only[bw,hx] at h ⊢;exact I h
def x6{env:Env}:∀ {names:List (Str×NameKind)} {x:Str},names.lookup x=some .free ->
  (names.map λ(n,k)=>if (k==NameKind.free && env.scope.kind==.function && env.kindOf n==some .cell) then(n,NameKind.cell) else(n,k)).lookup x=some .cell \/
  (names.map λ(n,k)=>if (k==NameKind.free && env.scope.kind==.function && env.kindOf n==some .cell) then(n,NameKind.cell) else(n,k)).lookup x=some .free
 | (n,k0)::r,x,h=>by
   have I:=@x6 env r x;show List.lookup x ((if (k0==NameKind.free && env.scope.kind==.function && env.kindOf n==some .cell)=true then(n,NameKind.cell) else(n,k0))::_)=_\/List.lookup x ((if (k0==NameKind.free && env.scope.kind==.function && env.kindOf n==some .cell)=true then(n,NameKind.cell) else(n,k0))::_)=_;cases hx:x==n with
   |true =>
     simp only[bw,hx] at h;cases h;by_cases D:(NameKind.free==NameKind.free && env.scope.kind==.function && env.kindOf n==some .cell)=true
     ·rw[am D];simp only[bw,hx];exact .inl trivial
     ·rw[b3 D];simp only[bw,hx];exact .inr trivial
   |false =>
     simp only[bw,hx] at h;by_cases D:(k0==NameKind.free && env.scope.kind==.function && env.kindOf n==some .cell)=true
     ·rw[am D];simp only[bw,hx];exact I h
     ·rw[b3 D];simp only[bw,hx];exact I h
def ir(X:Cx)(x:Str)(N':d3)(sc:Scope)(cl:List (Str×Addr))(C:Addr)(s₂:Shared)(H₂:Hp)(fp:ed):Cx :=
 { X with N:=x::N',s₀:=s₂,H₀:=H₂,env:=compEnvC sc cl C X.env,outer:=X.stack,stack:=X.stack,ex:=fp,fn:=λ_=>false,pn:=[],xe:=λ_ _=>False }
def fB(X:Cx)(ifs:er)(tt:TT):Prop :=
 ∀(pins:e9) (s:Shared) (σ:St) (H:Hp) (Q:Bool->Hp->Prop),Inv X pins σ H s->tt σ H Q ->
  wpAny (model X.prog X.w) X.A (forIn ifs true λc r=>if r=true then do let ok <-isTrue c X.env (eval c X.env);pure (ForInStep.yield ok) else pure (ForInStep.yield r)) (TP X pins σ Q) X.xe s
def l_:TT:=λ_ H Q=>Q true H
def y2:fB X [] l_:=λ_ _ _ H _ I h=>wpAny_tests_nil ⟨H,I,h⟩
variable{c:Expr}
def y3{D:TT}(h:PT X c D):fB X [c] D:=λpins s σ H Q I q=>wpAny_tests_one (h pins s σ H Q I q)
def qm(wi:TI)(ix:ee)(tt:TT)(te:TE):TE:=λσ H Q=>wi σ H λJ H1=>∃W:Nat->Nat->Hp->fe->Prop,(∃m,W 0 m H1 [])/\∀i m H ys,W i m H ys ->
 (J.stop i H/\ys.length<=sizeLine/\∀D,H D=none->Q (.ref D) (aR H D (.lst ys))) \/
 (J.go i H/\∀x H',J.yld i H x H'->tt (↑x::ix.map (λj=>σ.getD j none)) H' λb H2 =>
   if b=true then te (↑x::ix.map (λj=>σ.getD j none)) H2 λv S=>ys.length<sizeLine/\∃I,I<m/\W (i+1) I S (ys++[v]) else ∃I,I<m/\W (i+1) I H2 ys)
abbrev lobj(ys:d5):Obj:={ cls:=.type "list",data:=.seq ys.toArray ys.length }
variable{ys:fe}{y:Str}
def aL.snoc{y:V}{u:Value}(h:aL ys vs)(r:RelV y u):aL (ys++[y]) (vs++[u]):=aL.append h (.cons r .nil)
def y4(vs:d5)(u:Value):({ cls:=.type "list",data:=.seq (vs.toArray.push u) (vs.length+1) }:Obj)=lobj (vs++[u]):=LCg.lst_snoc vs u
variable{R:Result->Shared->Prop}{s:Sl}{elt iter:Expr}{ifs:er}{pos:Pos}
def yA{prog:Program}{s:Shared}{D:Expr}{scope:Scope}{it d:Value}(I:Nat->Shared->Prop)(turn:∀n s,I n s->wpAny (model prog w) A (pyNext it) (λr S=>match r with
   |none=>R (.ok .next) S |some v => wpAny (model prog w) A (letOwnedTupleGo D it v) (λ_ U => wpAny (model prog w) A (assign D env v) (λ_ s₂ => wpAny (model prog w) A (forIn ifs true λc r => if r = true then do let ok <-isTrue c env (eval c env);pure (ForInStep.yield ok) else pure (ForInStep.yield r)) (λok V =>
       if ok=true then wpAny (model prog w) A (eval elt env) (λx Y=>wpAny (model prog w) A (call (.builtin "list.append") [d,x]) (λ_ a=>∃m,m<n/\I m a) (notedBy (model prog w) A env λe s'=>R (.error e) s') Y) (notedBy (model prog w) A env λe s'=>R (.error e) s') V
       else ∃m,m<n/\I m V) (notedBy (model prog w) A env λe s'=>R (.error e) s') s₂) (notedBy (model prog w) A env λe s'=>R (.error e) s') U) (notedBy (model prog w) A env λe s'=>R (.error e) s') S) (notedBy (model prog w) A env λe s'=>R (.error e) s') s)(n:Nat)(h:I n s):codeAny (model prog w) A (.compLoop (.ListComp elt [⟨D,iter,ifs,0⟩] scope pos) 0 it d env) R s:=by
 refine codeAny_loop rfl I (λn s k=>?_) n h;refine(show wpAny _ A ((compTurn (.ListComp elt [⟨D,iter,ifs,0⟩] scope pos) 0 it d env).onRaise (λx=>do noteFrame x env;theTreesLotGoes x)) _ _ s from wpAny_noted ?_);rw[compTurn_list];refine av (wpAny_standAt (av (aW (turn n s k) λr S h₁=>?_)));cases r with
 |none=>exact cq h₁ |some v =>
   refine av (aW h₁ λ_ U f=>av (aW f λ_ s₂ g=>av (aW g λok V b=>?_)));cases ok with
   |false=>exact cq ⟨rfl,b⟩ |true=>exact av (av (aW b λx Y i=>av (aW i λ_ a j=>cq (cq ⟨rfl,j⟩))))
def lf(X:Cx)(xs N':d3)(sc:Scope)(cl:List (Str×Addr))(C:Addr)(s₂:Shared)(H₂:Hp)(fp:ed):Cx :=
 { X with N:=xs++N',s₀:=s₂,H₀:=H₂,env:=compEnvC sc cl C X.env,outer:=X.stack,stack:=X.stack,ex:=fp,fn:=λ_=>false,pn:=[],xe:=λ_ _=>False }
variable{pins:e9}{σ:St}{s2:Shared}{fp:ed}{cl:List (Str×Addr)}{h₁:Heap}{m₁:Str->eb}{xs N':d3}{ix:ee}
theorem yB{tk:Nat}(x:N'=ix.map λi=>X.N.getD i ("" : Str))(L:sc.kind=.function)(Y:∀y∈sc.names,y.2≠.cell)(a:∀y∈sc.names,y.2=.free->X.env.kindOf y.1=some .cell\/X.env.kindOf y.1=some .free)(A:∀y∈N',sc.names.lookup y=some .free)(h1:∀y c,cl.lookup y=↑c->X.env.cells.lookup y=↑c)(K:∀y∈sc.names,y.2=.free->∃c,cl.lookup y.1=↑c)(I:Inv X pins σ H2 s2)(t:∀b∈fp,cG X pins H2 b)(B:∀b∈fp,∃o,s2.heap.get? b=↑o)(V:∀b o,s2.heap.get? b=↑o->h₁.get? b=↑o)(C:h₁.Ns (s2.heap.objs.size+1) m₁)(M:h₁.get? s2.heap.objs.size=↑(lobj [])) :
  Inv (lf X xs N' sc cl (s2.heap.objs.size+1) s2 H2 fp) [(s2.heap.objs.size,lobj [])] (xs.map (λ_=>none)++ix.map (λj=>σ.getD j none)) H2 { s2 with heap:=h₁,toks:=tk }:=by
 have E:∀b∈fp,b<s2.heap.objs.size:=λb U=>by obtain⟨o,e⟩:=B b U;exact bc e
 have f:∀b,s2.heap.objs.size<=b->b∉c_ X.stack:=λb U z=>by
  rcases bz.mp (I.stkSub b z) with e |z
  ·exact absurd (az I.lt (e ▸ U)) (dy _)
  ·exact I.nofs U z
 refine⟨⟨I.ok.mod,L,I.ok.glob,I.ok.blt,j4 _,λy z c S D=>I.ok.inj y z c (h1 _ _ S) (h1 _ _ D),λy O=>?_,λy c z _=>(by cases z),I.ok.hd,I.ok.frames,.inl rfl,λb U=>⟨?_,λy c e=>?_⟩,I.bs,b5 I.ok.bsz I.sz,λb o e U=>?_,λb U z=>?_,I.stack,I.stkFree⟩,
  rfl,I.bare,Un.kept V,⟨m₁,C,λi y v S D Z=>?_⟩,λy c e=>?_,I.hok.fresh (j4 _),λy c e=>I.freeC y c (h1 y c e),λp F=>?_,I.hok.kept V,?_⟩
 ·have G:(relabel sc X.env).names.lookup y=some .cell\/(relabel sc X.env).names.lookup y=some .free:=O
  have P:sc.names.lookup y=some .free:=by
   rcases G with q |q
   ·rcases lZ q with q | ⟨q,_⟩
    ·exact absurd rfl (Y _ (cz q))
    ·exact q
   ·rcases lZ q with q | ⟨_,q⟩
    ·exact q
    ·cases q
  exact K (y,.free) (cz P) rfl
 ·exact bo (eg (E b U))
 ·exact(t b U).2.2.2.2.1 y c (h1 y c e)
 ·rcases(t b U).2.2.2.1 with z |z
  ·exact I.ok.noex b o e z
  ·exact absurd (az (bc e) (b5 I.ok.bsz z)) (dy _)
 ·have z:b∈c_ X.stack:=z
  rcases bz.mp (I.stkSub b z) with e |z
  ·exact(t b U).2.1 e
  ·exact(t b U).2.2.1 z
 ·by_cases g:i<xs.length
  ·rw[ao (by simpa using g),bh] at D
   cases hq0:xs[i]? with
   |none=>rw[hq0] at D;cases D
   |some z0=>rw[hq0] at D;cases D
  ·have S:(xs++N')[i]?=↑y:=S
   rw[bj ∅] at S;rw[bj (by rw[af];lia),af] at D;generalize i-xs.length=j at S D;rw[x,bh] at S;rw[bh] at D;cases q:ix[j]? with
   |none=>rw[q] at S;cases S
   |some k =>
     rw[q] at S D;have S:X.N.getD k "" = y:=bg S;have D:σ.getD k none=↑v:=bg D;have h:σ[k]?=↑↑v:=by
      rw[aq] at D;cases q2:σ[k]? with
      |none=>rw[q2] at D;cases D
      |some z=>rw[q2] at D;rw[show z=↑v from D]
     have l:k<X.N.length:=by rw[<-I.len];exact(ah.mp h).1
     have H:X.N[k]?=↑y:=by
      rw[aq,au l] at S;rw[au l];exact congrArg some S
     have J:y∈N':=by
      rw[x,<-S];exact dn.mpr ⟨k,br q,rfl⟩
     have d:=A y J;have n:=a (y,.free) (cz d) rfl;have r:iL X.env.scope y:=by
      rcases n with z |z
      ·exact .inr (.inl z)
      ·exact .inr (.inr z)
     obtain⟨m,hn,Q⟩:=I.loc;obtain⟨u,R,T⟩:=Q k y v H h r;refine⟨u,R,.inr ⟨?_,?_⟩⟩
     ·exact x6 d
     ·rcases T with⟨z,_⟩ | ⟨_,c,hc,hcv⟩
      ·rcases n with w |w <;> rw[show X.env.kindOf y=_ from w] at z <;> cases z
      ·obtain⟨W,s⟩:=K (y,.free) (cz d) rfl
       have:=h1 y W s;rw[hc] at this;cases this;exact⟨c,s,hcv.keeps V⟩
 ·obtain⟨v,q⟩:=I.cell y c (h1 y c e)
  exact⟨v,q.keeps V⟩
 ·have F:p∈[(s2.heap.objs.size,lobj [])]:=F
  rw[b6.mp F];exact⟨M,I.hok.fresh (bn _),bo (dw _),f _ (bn _),λv z=>by cases z⟩
 ·simp[lf,x]
def qF{g:St}{V:Shared}{h':Heap}(I:Inv X pins σ H2 s2)(l:∀b∈fp,cG X pins H2 b)(m:∀b∈fp,∃o,s2.heap.get? b=↑o)(J:Inv (lf X xs N' sc cl (s2.heap.objs.size+1) s2 H2 fp) [(s2.heap.objs.size,lobj vs)] g H' V)(p:aL ys vs)(r:ys.length<=sizeLine)(d:Heap.SameBut (s2.heap.objs.size+1) V.heap h') :
  Inv X pins σ (aR H' s2.heap.objs.size (.lst ys)) { V with heap:=h' }:=by
 have j:=J.pin (s2.heap.objs.size,lobj vs) (bu _ ay);have Y:H' s2.heap.objs.size=none:=j.2.1;have a:H' (s2.heap.objs.size+1)=none:=J.free;have S:Un (c_ X.stack) fp H2 H' s2.heap V.heap:=J.base;have f:∀b o,s2.heap.get? b=↑o->b≠s2.heap.objs.size/\b≠s2.heap.objs.size+1:=λb o e=>by
  have:=bc e;exact⟨bo this,bo (eg this)⟩
 have s:∀b,s2.heap.objs.size<=b->H2 b=none:=λb D=>I.hok.fresh D;have h:∀b o,H2 b=↑o->b≠s2.heap.objs.size:=λb o e z=>by rw[z,s _ (bn _)] at e;cases e
 have t:Un (c_ X.stack) fp H2 (aR H' s2.heap.objs.size (.lst ys)) s2.heap h':=by
  refine⟨λb o e n D U=>(d.2 b (f b o e).2).trans (S.keep b o e n D U),λb o e n D U=>?_,λb o e n U=>?_,λb o e U=>?_,λb xs e=>?_,λb o u e=>?_,λb ps e=>?_⟩
  ·obtain⟨sl,q⟩:=S.slot b o e n D U
   exact⟨sl,(d.2 b (f b o e).2).trans q⟩
  ·rw[e8 (f b o e).1];exact S.free b o e n U
  ·obtain⟨o',q⟩:=S.there b o e U
   exact⟨o',(d.2 b (f b o e).2).trans q⟩
  ·rw[e8 (h b _ e)];exact S.tups b xs e
  ·rw[e8 (h b _ e)];exact S.frzs b o u e
  ·rw[e8 (h b _ e)];exact S.tbls b ps e
 have k:∀b u,b≠s2.heap.objs.size+1->V.heap.get? b=↑u->h'.get? b=↑u:=λb u D q=>(d.2 b D).trans q;have i:dL X.prog X.w (aR H' s2.heap.objs.size (.lst ys)) h':=λb u e=>by
  by_cases D:b=s2.heap.objs.size
  ·subst D
   rw[j9] at e;cases e;exact⟨r,vs,vs.length,p,k _ _ (bo (dw _)) j.1⟩
  ·rw[e8 D] at e
   have x:b≠s2.heap.objs.size+1:=λz=>by rw[z,a] at e;cases e
   refine(J.hok b u e).stay (λc v hc q=>k c v ?_ q) (λc q=>?_) λc xs q=>?_
   ·rcases hc with rfl |hc
    ·exact x
    ·intro z;rw[z,a] at hc;cases hc
   ·rw[e8 (λz=>by rw[z,Y] at q;cases q)];exact q
   ·rw[e8 (λz=>by rw[z,Y] at q;cases q)];exact q
 refine I.call' (s':={ V with heap:=h' }) (ch:=fp) J.os t i J.bare λb D=>?_;obtain⟨_,y,_,A,B,C⟩:=l b D;exact⟨A,y,B,C⟩
variable{J:It}{Q:VK}{W:Nat->Nat->Hp->fe->Prop}{Cm:Cx->Prop}{tg:Expr}{g:TG}{tt:TT}{te:TE}
theorem qG{it:Addr}{O:Nat->Heap->Prop}{m0:Nat}(hc:∀cl C s₂ H₂ fp pins σ,Inv X pins σ H₂ s₂->(∀b∈fp,cG X pins H₂ b)->Cm (lf X xs N' sc cl C s₂ H₂ fp))(a7:∀cl C s₂ H₂ fp,Cm (lf X xs N' sc cl C s₂ H₂ fp)->fB (lf X xs N' sc cl C s₂ H₂ fp) ifs tt)(a8:∀cl C s₂ H₂ fp,Cm (lf X xs N' sc cl C s₂ H₂ fp)->PE (lf X xs N' sc cl C s₂ H₂ fp) elt te)(hg:∀cl C s₂ H₂ fp,Cm (lf X xs N' sc cl C s₂ H₂ fp)->PG (lf X xs N' sc cl C s₂ H₂ fp) tg g)(hN:N'=ix.map λi=>X.N.getD i ("" : Str))(hk:sc.kind=.function)(P:∀y∈sc.names,y.2≠.cell)(a6:∀y∈sc.names,y.2=.local->sc.names.lookup y.1=some .local)(Z:∀y∈sc.names,y.2=.free->X.env.kindOf y.1=some .cell\/X.env.kindOf y.1=some .free)(a9:∀y∈N',sc.names.lookup y=some .free)(h1:∀y c,cl.lookup y=↑c->X.env.cells.lookup y=↑c)(h3:∀y∈sc.names,y.2=.free->∃c,cl.lookup y.1=↑c)(h:Inv X pins σ H2 s2)(T:pz Cm X.prog X.w X.K tg J fp it O)(al:O 0 s2.heap)(k:∀b∈fp,cG X pins H2 b)(w0:W 0 m0 H2 [])(turn:∀i m H ys,W i m H ys ->
   (J.stop i H/\ys.length<=sizeLine/\∀D,H D=none->Q (.ref D) (aR H D (.lst ys))) \/
   (J.go i H/\∀x H',J.yld i H x H'->∀σp:St,σp.length=xs.length->g x (σp++ix.map (λj=>σ.getD j none)) H' λl H1=>∃U:St,U.length=xs.length/\l=U++ix.map (λj=>σ.getD j none)/\tt l H1 λb H2 =>
     if b=true then te l H2 λv H3=>ys.length<sizeLine/\∃s,s<m/\W (i+1) s H3 (ys++[v]) else ∃s,s<m/\W (i+1) s H2 ys))(an:∀b o,s2.heap.get? b=↑o->h₁.get? b=↑o)(t:h₁.Ns (s2.heap.objs.size+1) m₁)(ap:h₁.get? s2.heap.objs.size=↑(lobj []))(hR:∀s5 F ys vs B,Inv (lf X xs N' sc cl (s2.heap.objs.size+1) s2 H2 fp) [(s2.heap.objs.size,lobj vs)] B F s5->aL ys vs->ys.length<=sizeLine->(∀D,F D=none->Q (.ref D) (aR F D (.lst ys)))->R (.ok .next) s5) :
  codeAny (model X.prog X.w) X.A (.compStart (.ListComp elt [⟨tg,iter,ifs,0⟩] sc pos) 0 (.ref it) (.ref s2.heap.objs.size) (compEnvC sc cl (s2.heap.objs.size+1) X.env)) R { s2 with heap:=h₁,toks:=s2.toks+([]:List (Str×Value)).length }:=by
 have ar:∀b∈fp,∃o,s2.heap.get? b=↑o:=λb I=>by obtain⟨o,e,_⟩:=T.obj _ _ al b I;exact⟨o,e⟩
 have aa:∀b∈fp,b<s2.heap.objs.size:=λb I=>by obtain⟨o,e⟩:=ar b I;exact bc e
 have I3:=yB (xs:=xs) (tk:=s2.toks+([]:List (Str×Value)).length) hN hk P Z a9 h1 h3 h k ar an t ap;have a0:O 0 h₁:=T.keep _ _ _ al λb I o e=>an b o e;generalize V:lf X xs N' sc cl (s2.heap.objs.size+1) s2 H2 fp=X' at I3;have eP:X'.prog=X.prog:=by rw[<-V];rfl
 have eW:X'.w=X.w:=by rw[<-V];rfl
 have eK:X'.K=X.K:=by rw[<-V];rfl
 have eA:X'.A=X.A:=by rw[<-V];rfl
 have G:X'.env=compEnvC sc cl (s2.heap.objs.size+1) X.env:=by rw[<-V];rfl
 have eC:Cm X':=by rw[<-V];exact hc _ _ _ _ _ _ _ h k
 have a1:X'.pn=[]:=by rw[<-V];rfl
 have ab:X'.xe=λ_ _=>False:=by rw[<-V];rfl
 have a2:X'.fs=c_ X.stack:=by rw[<-V];rfl
 have ba:X'.ex=fp:=by rw[<-V];rfl
 have eS:X'.s₀=s2:=by rw[<-V];rfl
 have bb:∀b∈fp,b∉c_ X.stack:=λb I z=>by
  rcases bz.mp (h.stkSub b z) with e |z
  ·exact(k b I).2.1 e
  ·exact(k b I).2.2.1 z
 have a3:s2.heap.objs.size∉c_ X.stack:=λz=>by
  rcases bz.mp (h.stkSub _ z) with e |z
  ·exact absurd (e ▸ h.lt) (dy _)
  ·exact h.nofs (bn _) z
 have Y:∀ {H':Hp} {vs:d5},(∀b∈fp,H' b=none)->∀b∈fp,cG X' [(s2.heap.objs.size,lobj vs)] H' b:=λ{H' vs} hn b I=>by
  refine⟨hn b I,?_,?_,.inl (by rw[ba];exact I),λy c e=>?_,λp E=>?_⟩
  ·rw[G];exact bo (eg (aa b I))
  ·rw[a2];exact bb b I
  ·rw[G] at e;exact(k b I).2.2.2.2.1 y c (h1 y c e)
  ·rw[a1] at E
   rw[b6.mp (show p∈[(s2.heap.objs.size,lobj vs)] from E)];exact ji (aa b I)
 have loop:∀S:Shared,S={ s2 with heap:=h₁,toks:=s2.toks+([]:List (Str×Value)).length } ->
   codeAny (model X.prog X.w) X.A (.compLoop (.ListComp elt [⟨tg,iter,ifs,0⟩] sc pos) 0 (.ref it) (.ref s2.heap.objs.size) (compEnvC sc cl (s2.heap.objs.size+1) X.env))
    (R) S:=by
  rintro S rfl;refine yA (λn s'=>∃i σp H' ys vs,σp.length=xs.length/\Inv X' [(s2.heap.objs.size,lobj vs)] (σp++ix.map (λj=>σ.getD j none)) H' s'/\aL ys vs/\O i s'.heap/\(∀b∈fp,H' b=none)/\W i n H' ys) ?_ m0
   ⟨0,xs.map (λ_=>none),H2,[],[],by simp,I3,.nil,a0,λb I=>(k b I).1,w0⟩
  rintro n s4 ⟨i,σp,F,ys,vs,hσp,I4,hv4,st4,fr4,w4⟩;rcases turn i n F ys w4 with⟨a4,hl,qn⟩ | ⟨go,step⟩
  ·have D:=T.done X' eP eW eK eC i _ s4 _ F (notedBy (model X.prog X.w) X.A (compEnvC sc cl (s2.heap.objs.size+1) X.env) λe s'=>R (.error e) s') I4 (Y fr4) st4 a4
   rw[eA] at D;refine aW D λr s5 a=>?_;obtain⟨hr,I5⟩:=a;subst hr;exact hR s5 F ys vs _ (V ▸ I5) hv4 hl qn
  ·have D:=T.item X' eP eW eK eC i _ s4 _ F (notedBy (model X.prog X.w) X.A (compEnvC sc cl (s2.heap.objs.size+1) X.env) λe s'=>R (.error e) s') I4 (Y fr4) st4 go
   rw[eA] at D;refine aW D λr s5 a=>?_;obtain⟨u,hr,h5⟩:=a;subst hr;have be:wpAny (model X.prog X.w) X.A (letOwnedTupleGo tg (.ref it) u) (λ_ ac=>wpAny (model X.prog X.w) X.A (assign tg (compEnvC sc cl (s2.heap.objs.size+1) X.env) u) (λ_ s₂ =>
     wpAny (model X.prog X.w) X.A (forIn ifs true λc r=>if r=true then do let ok <-isTrue c (compEnvC sc cl (s2.heap.objs.size+1) X.env) (eval c (compEnvC sc cl (s2.heap.objs.size+1) X.env));pure (ForInStep.yield ok) else pure (ForInStep.yield r)) (λok S =>
      if ok=true then wpAny (model X.prog X.w) X.A (eval elt (compEnvC sc cl (s2.heap.objs.size+1) X.env)) (λx a5 =>
       wpAny (model X.prog X.w) X.A (call (.builtin "list.append") [.ref s2.heap.objs.size,x]) (λ_ L=>∃m,m<n/\∃i σp H' ys vs,σp.length=xs.length/\Inv X' [(s2.heap.objs.size,lobj vs)] (σp++ix.map (λj=>σ.getD j none)) H' L/\aL ys vs/\O i L.heap/\(∀b∈fp,H' b=none)/\W i m H' ys)
        (notedBy (model X.prog X.w) X.A (compEnvC sc cl (s2.heap.objs.size+1) X.env) λe s'=>R (.error e) s') a5)
       (notedBy (model X.prog X.w) X.A (compEnvC sc cl (s2.heap.objs.size+1) X.env) λe s'=>R (.error e) s') S
      else ∃m,m<n/\∃i σp H' ys vs,σp.length=xs.length/\Inv X' [(s2.heap.objs.size,lobj vs)] (σp++ix.map (λj=>σ.getD j none)) H' S/\aL ys vs/\O i S.heap/\(∀b∈fp,H' b=none)/\W i m H' ys)
      (notedBy (model X.prog X.w) X.A (compEnvC sc cl (s2.heap.objs.size+1) X.env) λe s'=>R (.error e) s') s₂)
     (notedBy (model X.prog X.w) X.A (compEnvC sc cl (s2.heap.objs.size+1) X.env) λe s'=>R (.error e) s') ac) (notedBy (model X.prog X.w) X.A (compEnvC sc cl (s2.heap.objs.size+1) X.env) λe s'=>R (.error e) s') s5:=by
    refine aW h5 λ_ s6 a=>?_;obtain⟨z,H6,I6,r6,y6,ag,bf⟩:=a;have bk:=I6.pinned (Y bf) (T.obj _ _ ag);have q6:=step z H6 y6 σp hσp;have g6:=(V ▸ hg cl (s2.heap.objs.size+1) s2 H2 fp (hc _ _ _ _ _ _ _ h k):PG X' tg g) _ s6 _ H6 z u _ bk r6 q6;rw[eP,eW,eA,G] at g6;refine fz g6 (λ_ s7 a=>?_) (λe s' z=>by rw[ab] at z;exact z.elim);obtain⟨l,H7,I7,U,M,bl,q7⟩:=a;subst bl;have t7:=(V ▸ a7 cl (s2.heap.objs.size+1) s2 H2 fp (hc _ _ _ _ _ _ _ h k):fB X' ifs tt) _ s7 _ H7 _ I7 q7;rw[eP,eW,eA,G] at t7;refine fz t7 (λb s8 a=>?_) (λe s' z=>by rw[ab] at z;exact z.elim);obtain⟨H8,I8,q8⟩:=a;have f:∀ {s':Shared} {H':Hp} {B:St},Inv X' ([(s2.heap.objs.size,lobj vs)]++t0 fp s6.heap) B H' s'->O (i+1) s'.heap/\∀b∈fp,H' b=none:=λ{s' H' B} J'=>by
     refine⟨T.keep _ _ _ ag λb I o e=>(J'.pin (b,o) (bu _ (bu _ (wo I e)))).1,λb I=>?_⟩;obtain⟨o,e,d⟩:=T.obj _ _ ag b I;exact(J'.pin (b,o) (bu _ (bu _ (wo I e)))).2.1
    cases b with
    |false =>
      rw[b3 b7] at q8 ⊢;obtain⟨s,hm,w8⟩:=q8;obtain⟨k1,k2⟩:=f I8;exact⟨s,hm,i+1,U,H8,ys,vs,M,I8.unpinned,hv4,k1,k2,w8⟩
    |true =>
      rw[am rfl] at q8 ⊢;have t8:=(V ▸ a8 cl (s2.heap.objs.size+1) s2 H2 fp (hc _ _ _ _ _ _ _ h k):PE X' elt te) _ s8 _ H8 _ I8 q8;rw[eP,eW,eA,G] at t8;refine fz t8 (λv s9 a=>?_) (λe s' z=>by rw[ab] at z;exact z.elim);obtain⟨y,H9,I9,r9,bv,s,hm,w9⟩:=a;have pD:=I9.pin (s2.heap.objs.size,lobj vs) (bu _ (ek _ ay));obtain⟨k1,k2⟩:=f I9;have b1:=hv4.length;refine append_at (D:=s2.heap.objs.size) (its:=vs.toArray) (n:=vs.length) pD.1 (λh' sb hD=>?_) (by rw[bp];lia);have bm:Inv X' [] (U++ix.map (λj=>σ.getD j none)) H9 s9:=I9.pins_of λp E=>nomatch E;have cne:∀y c,X'.env.cells.lookup y=↑c->c≠s2.heap.objs.size:=λy c e=>by
       rw[G] at e;obtain⟨v',q⟩:=h.cell y c (h1 y c e);exact bo q.lt
      have bs:Inv X' [] (U++ix.map (λj=>σ.getD j none)) H9 { s9 with heap:=h' }:=bm.turned (t':=s9.toks) (it:=s2.heap.objs.size) (λb o I e=>(sb.2 b I).trans e) pD.2.1 (by rw[G];exact bo (dw _)) (.inr (by rw[eS];exact bn _)) cne (λp E=>by rw[a1] at E;exact nomatch E);have bt:Inv X' [(s2.heap.objs.size,lobj (vs++[v]))] (U++ix.map (λj=>σ.getD j none)) H9 { s9 with heap:=h' }:=bs.pins_of λp E=>by
       rw[b6.mp E];exact⟨hD.trans (congrArg some (y4 vs v)),pD.2.1,by rw[G];exact bo (dw _),by rw[a2];exact a3,λv' z'=>by cases z'⟩
      exact⟨s,hm,i+1,U,H9,ys++[y],vs++[v],M,bt,hv4.snoc r9,T.keep _ _ _ k1 (λb I o e=>(sb.2 b (bo (aa b I))).trans e),k2,w9⟩
   exact be
 exact codeAny_compStart_list (loop _ rfl) (T.self X.A 0 _ _ _ a0 (loop _ rfl))
def qH(turn:∀i m H ys,W i m H ys ->
   (J.stop i H/\ys.length<=sizeLine/\∀D,H D=none->Q (.ref D) (aR H D (.lst ys))) \/
   (J.go i H/\∀x H',J.yld i H x H'->tt (↑x::ix.map (λj=>σ.getD j none)) H' λb H2 =>
     if b=true then te (↑x::ix.map (λj=>σ.getD j none)) H2 λv V=>ys.length<sizeLine/\∃I,I<m/\W (i+1) I V (ys++[v]) else ∃I,I<m/\W (i+1) I H2 ys)) :
  ∀i m H ys,W i m H ys ->
   (J.stop i H/\ys.length<=sizeLine/\∀D,H D=none->Q (.ref D) (aR H D (.lst ys))) \/
   (J.go i H/\∀v H',J.yld i H v H'->∀σp:St,σp.length=[x].length->ki 0 v (σp++ix.map (λj=>σ.getD j none)) H' λS H1=>∃U:St,U.length=[x].length/\S=U++ix.map (λj=>σ.getD j none)/\tt S H1 λb H2 =>
     if b=true then te S H2 λv V=>ys.length<sizeLine/\∃I,I<m/\W (i+1) I V (ys++[v]) else ∃I,I<m/\W (i+1) I H2 ys):=λi m H ys w=>(turn i m H ys w).imp id λq=>⟨q.1,λv H' y σp Y=>by
 obtain⟨a,rfl⟩:=List.length_eq_one_iff.mp Y;exact⟨[↑v],rfl,rfl,q.2 v H' y⟩⟩
variable{C:Addr}{s₂:Shared}{H₂:Hp}{px:Pos}
def qI(D:(x::N').Nodup)(I:sc.names.lookup x=some .local):PG (lf X [x] N' sc cl C s₂ H₂ fp) (.Name x px) (ki 0) :=
 zw (i:=0) D rfl (.inl (lg I)) (.inr (lg I))
variable{h:Heap}
def Heap.SameBut.rf(e:∃o,h.get? a=↑o):Heap.SameBut a h h:=by
 first |exact⟨rfl,λ_ _=>rfl⟩ |exact⟨e,λ_ _=>rfl⟩
structure za (X:Cx) (x:Str) (N':d3) (ix:ee) (sc:Scope):Prop where
 nm:N'=ix.map λi=>X.N.getD i ("" : Str)
 nd:(x::N').Nodup
 kind:sc.kind=.function
 hx:sc.names.lookup x=some .local
 cell:∀y∈sc.names,y.2≠.cell
 names:∀y∈sc.names,y.2=.local->sc.names.lookup y.1=some .local
 free:∀y∈sc.names,y.2=.free->X.env.kindOf y.1=some .cell\/X.env.kindOf y.1=some .free
 fv:∀y∈N',sc.names.lookup y=some .free
variable{wi:TI}
def qJ(c:za X x N' ix sc)(t:∀cl C s₂ H₂ fp pins σ,Inv X pins σ H₂ s₂->(∀b∈fp,cG X pins H₂ b)->Cm (ir X x N' sc cl C s₂ H₂ fp))(hi:gX Cm X (.Name x px) iter wi)(a:∀cl C s₂ H₂ fp,Cm (ir X x N' sc cl C s₂ H₂ fp)->fB (ir X x N' sc cl C s₂ H₂ fp) ifs tt)(d:∀cl C s₂ H₂ fp,Cm (ir X x N' sc cl C s₂ H₂ fp)->PE (ir X x N' sc cl C s₂ H₂ fp) elt te)(u:∀v,foldedSetIterable iter X.env v=pure v:=by intro _;rfl) :
  PE X (.ListComp elt [⟨.Name x px,iter,ifs,0⟩] sc pos) (qm wi ix tt te):=by
 intro pins s σ H Q I h;obtain⟨cl,f,h1,w⟩:=qE (sc:=sc) (env:=X.env) (λy i z=>I.ok.has y.1 (c.free y i z));rw[eval_ListComp];refine wpAny_comprehension_free (use:=none) rfl u f c.kind c.names (aW (hi pins s σ H _ I h) λv O A=>aW A λB s2 h2=>?_);obtain⟨it,fp,P,J,H2,rfl,q,T,U,r,W,⟨R,E⟩,turn⟩:=h2;refine jm (wpAny_newFunctionEnv c.cell (by intro y i;simp at i) (λh₁ S D=>?_) c.kind);dsimp only at S D ⊢;have V:(s2.heap.push { cls:=.type "list",dict:=none,data:=.seq ([]:d5).toArray }).objs.size=s2.heap.objs.size+1:=gv ..;rw[V] at S D ⊢;have j:∀b o,s2.heap.get? b=↑o->h₁.get? b=↑o:=λb o e=>D.extBut b o (bo (eg (bc e))) (aj _ (aj _ e));have Y:h₁.get? s2.heap.objs.size=↑(lobj []):=D.extBut _ _ (bo (dw _)) (aj _ (b9 _ rfl));have k:∀b∈fp,∃o,s2.heap.get? b=↑o:=λb F=>by obtain⟨o,e,_⟩:=T.obj _ _ U b F;exact⟨o,e⟩
 refine qG (xs:=[x]) (g:=ki 0) t a d (λ_ _ _ _ _ _=>qI c.nd c.hx) c.nm c.kind c.cell c.names c.free c.fv h1 w q T U r E (qH turn) j S Y λZ H4 ys vs G l m K L=>?_;obtain⟨M,n,_⟩:=l.loc;refine⟨M,n,λh' N=>?_⟩;have p:=(l.pin (s2.heap.objs.size,lobj vs) (bu _ ay)).2.1;exact⟨.ref s2.heap.objs.size,_,qF (xs:=[x]) q r k l m K N,rfl,L _ p⟩
variable{i:Nat}
def zt{d spos:Pos}(c:za X x N' ix sc)(hc:∀cl C s₂ H₂ fp pins σ,Inv X pins σ H₂ s₂->(∀b∈fp,cG X pins H₂ b)->Cm (ir X x N' sc cl C s₂ H₂ fp))(r:X.N.Nodup)(t:X.N[i]?=↑y)(u:Loc X.env.scope y)(hi:gX Cm X (.Name x px) iter wi)(w:∀cl C s₂ H₂ fp,Cm (ir X x N' sc cl C s₂ H₂ fp)->fB (ir X x N' sc cl C s₂ H₂ fp) ifs tt)(B:∀cl C s₂ H₂ fp,Cm (ir X x N' sc cl C s₂ H₂ fp)->PE (ir X x N' sc cl C s₂ H₂ fp) elt te)(E:swapsWith (.ListComp elt [⟨.Name x px,iter,ifs,0⟩] sc pos) ↑(.Name y d) spos.line X.env=pure true)(F:X.fn y=true\/X.env.scope.names.lookup y=some .local:=by first |exact .inl rfl |exact .inr rfl |assumption)(hs:∀v,foldedSetIterable iter X.env v=pure v:=by intro _;rfl) :
  PS X (.Assign [.Name y d] (.ListComp elt [⟨.Name x px,iter,ifs,0⟩] sc pos) spos) (eD (qm wi ix tt te) (ki i)):=by
 intro pins s σ H Dn I h;have h:qm wi ix tt te σ H λv H1=>Dn.nx (σ.set i ↑v) H1:=h;obtain⟨cl,G,h1,h3⟩:=qE (sc:=sc) (env:=X.env) (λy K F=>I.ok.has y.1 (c.free y K F));rw[exec_Assign_Name_used _ _ _ _ E];refine av (wpAny_standAt (av ?_));show wpAny _ X.A (do let _ <-comprehension (.ListComp elt [⟨.Name x px,iter,ifs,0⟩] sc pos) sc X.env _ (newList []) false (eval iter X.env) ↑(assign (.Name y d) X.env)) _ _ s;refine av (fz (wpAny_comprehension_free (use:=↑(assign (.Name y d) X.env)) (Q:=λ_ s'=>SP X pins Dn .next s') rfl hs G c.kind c.names
  (aW (hi pins s σ H _ I h) λv s1 g1=>aW g1 λab s2 h2=>?_)) (λ_ s' hq=>cq (cq hq)) λ_ _ e=>e)
 obtain⟨it,fp,tn,J,H2,rfl,Y,T,f,f2,W,⟨m0,w0⟩,turn⟩:=h2;refine jm (wpAny_newFunctionEnv c.cell (by intro y K;simp at K) (λh₁ S D=>?_) c.kind);dsimp only at S D ⊢;have j:(s2.heap.push { cls:=.type "list",dict:=none,data:=.seq ([]:d5).toArray }).objs.size=s2.heap.objs.size+1:=gv ..;rw[j] at S D ⊢;have L:∀b o,s2.heap.get? b=↑o->h₁.get? b=↑o:=λb o e=>D.extBut b o (bo (eg (bc e))) (aj _ (aj _ e));have k:h₁.get? s2.heap.objs.size=↑(lobj []):=D.extBut _ _ (bo (dw _)) (aj _ (b9 _ rfl));have M:∀b∈fp,∃o,s2.heap.get? b=↑o:=λb O=>by obtain⟨o,e,_⟩:=T.obj _ _ f b O;exact⟨o,e⟩
 refine qG (xs:=[x]) (g:=ki 0) (Q:=λv H1=>Dn.nx (σ.set i ↑v) H1) hc w B (λ_ _ _ _ _ _=>qI c.nd c.hx) c.nm c.kind c.cell c.names c.free c.fv h1 h3 Y T f f2 w0 (qH (Q:=λv H1=>Dn.nx (σ.set i ↑v) H1) turn) L S k λl H4 ys vs ac n P hl qn=>?_;obtain⟨m5,U,_⟩:=n.loc;have U:l.heap.Ns (s2.heap.objs.size+1) m5:=U;have R:=(n.pin (s2.heap.objs.size,lobj vs) (bu _ ay)).2.1;have oC:∃o,l.heap.get? (s2.heap.objs.size+1)=↑o:=let ⟨o,_,_,e,_⟩:=U;⟨o,e⟩;have I6:Inv X pins σ (aR H4 s2.heap.objs.size (.lst ys)) { l with heap:=l.heap }:=qF (xs:=[x]) Y f2 M n P hl (Heap.SameBut.rf oC);show wpAny _ X.A (assign (.Name y d) X.env (.ref s2.heap.objs.size)) _ _ l;have HC:aR H4 s2.heap.objs.size (.lst ys) (s2.heap.objs.size+1)=none:=by rw[e8 (ji (dw _))];exact n.free
 have V:∀a o,s2.heap.get? a=↑o->s2.heap.objs.size+1≠a:=λa o e=>ji (eg (bc e));have oL:∃o,s2.heap.get? X.env.locals=↑o:=let ⟨m,hn,_⟩:=Y.loc;let ⟨o,_,_,e,_⟩:=hn;⟨o,e⟩;have cL:s2.heap.objs.size+1≠X.env.locals:=let ⟨o,e⟩:=oL;V _ o e;have cC:∀z q,X.env.cells.lookup z=↑q->q≠s2.heap.objs.size+1:=λz q e=>by
  obtain⟨v',o,e',_⟩:=Y.cell z q e;exact Ne.symm (V _ o e')
 refine wpAny_assign_Name (lu (v:=.ref s2.heap.objs.size) I6 r t u rfl (λs7 I7 zq=>?_) F);obtain⟨a,sb,ha⟩:=zq;have Z:s2.heap.objs.size+1≠a:=by
  rcases ha with rfl |ha
  ·exact cL
  ·exact Ne.symm (cC _ _ ha)
 refine⟨m5,U.sameBut sb Z,λh' aa=>?_⟩;refine⟨_,_,I7.turned (t':=s7.toks) (it:=s2.heap.objs.size+1) (λb o O e=>(aa.2 b O).trans e) HC cL (.inr ?_) cC (λp hp=>?_),qn _ R⟩
 ·exact lj Y.sz
 ·exact Ne.symm (V _ _ (Y.pin p hp).1)
structure Dx (X:Cx) (xs N':d3) (ix:ee) (sc:Scope):Prop where
 nm:N'=ix.map λi=>X.N.getD i ("" : Str)
 nd:(xs++N').Nodup
 kind:sc.kind=.function
 hx:∀y∈xs,sc.names.lookup y=some .local
 cell:∀y∈sc.names,y.2≠.cell
 names:∀y∈sc.names,y.2=.local->sc.names.lookup y.1=some .local
 free:∀y∈sc.names,y.2=.free->X.env.kindOf y.1=some .cell\/X.env.kindOf y.1=some .free
 fv:∀y∈N',sc.names.lookup y=some .free
inductive D where
 |non |bl (b:Bool) |int (i:Int) |str (s:Str) |tup (ds:List D) |lst (ds:List D)
 |dct (ks:ei) (ds:List D)
 |exc (a:Addr)
abbrev fh:=List D
abbrev fk:=Option D
inductive Im where
 |t (vs:fe) |d (kvs:List (eJ×V))
@[reducible] noncomputable def Im.out:Im->HO | .t vs=>.tup vs | .d kvs=>.dK kvs
def yC(ks:ei)(vs:fe):List (eJ×V):=ks.zipWith (λk v=>(Sum.inl k,v)) vs
def KL(K:e5)(a:Addr)(xs:fe):Prop :=
 ∃(o:Obj) (its:fc) (n:Nat),K.lookup a=↑o/\o.cls=.type "list"/\o.dict=none/\o.data=.seq its n/\its.size<=sizeLine/\aL xs its.toList
mutual
inductive aQ (K:e5) (H:Hp) (O:Addr->Prop):D->V->Prop
 |non:aQ K H O .non .non
 |bl (b:Bool):aQ K H O (.bl b) (.bl b)
 |int (i:Int):aQ K H O ↥i ↥i
 |str (s:Str):aQ K H O (.str s) (.str s)
 |tup {a:Addr} {vs:fe} {ds:fh}:H a=↑(.tup vs)->aF K H O ds vs->aQ K H O (.tup ds) (.ref a)
 |lst {a:Addr} {vs:fe} {ds:fh}:O a->Rd H a (.lst vs)->aF K H O ds vs->aQ K H O (.lst ds) (.ref a)
 |klst {a:Addr} {vs:fe} {ds:fh}:KL K a vs->aF K H O ds vs->aQ K H O (.lst ds) (.ref a)
 |dct {a:Addr} {ks:ei} {vs:fe} {ds:fh}:H a=↑(.dK (yC ks vs))->aF K H O ds vs->aQ K H O (.dct ks ds) (.ref a)
 |exc (a:Addr):aQ K H O (.exc a) (.ref a)
inductive aF (K:e5) (H:Hp) (O:Addr->Prop):fh->fe->Prop
 |nil:aF K H O [] []
 |cons {d:D} {v:V} {ds:fh} {vs:fe}:aQ K H O d v->aF K H O ds vs->aF K H O (d::ds) (v::vs)
end
variable{vs:fe}{ds:fh}{O:Addr->Prop}
def aF.ind{P:fh->fe->Prop}(n:P [] [])(c:∀ {d v ds vs},aQ K H O d v->aF K H O ds vs->P ds vs->P (d::ds) (v::vs)):aF K H O ds vs->P ds vs :=
 aF.rec (motive_1:=λ_ _ _=>True) (motive_2:=λds vs _=>P ds vs) ⟨⟩ (λ_=>⟨⟩) (λ_=>⟨⟩) (λ_=>⟨⟩) (λ_ _ _=>⟨⟩) (λ_ _ _ _=>⟨⟩) (λ_ _ _=>⟨⟩) (λ_ _ _=>⟨⟩) (λ_=>⟨⟩) n λr t _=>c r t
variable{v:V}{O':Addr->Prop}
def aQ.mono(D:∀a (u:Im),H a=↑u.out->H' a=↑u.out)(I:∀a vs,O a->Rd H a (.lst vs)->O' a/\Rd H' a (.lst vs)):aQ K H O d v->aQ K H' O' d v :=
 aQ.rec (motive_1:=λd v _=>aQ K H' O' d v) (motive_2:=λds vs _=>aF K H' O' ds vs) .non .bl .int .str (λh _=>.tup (D _ (.t _) h)) (λo h _=>.lst (I _ _ o h).1 (I _ _ o h).2) (λh _=>.klst h) (λh _=>.dct (D _ (.d _) h)) .exc .nil λ_ _=>.cons
def aF.mono(I:∀a (u:Im),H a=↑u.out->H' a=↑u.out)(S:∀a vs,O a->Rd H a (.lst vs)->O' a/\Rd H' a (.lst vs)){ds:fh}{vs:fe}:aF K H O ds vs->aF K H' O' ds vs:=aF.ind .nil λr _=>.cons (r.mono I S)
def aF.length{ds:fh}{vs:fe}:aF K H O ds vs->ds.length=vs.length:=aF.ind (P:=λds vs=>ds.length=vs.length) rfl λ_ _=>congrArg Nat.succ
def aF.get(h:aF K H O ds vs):ds[i]?=↑d->∃v,vs[i]?=↑v/\aQ K H O d v :=
 aF.ind (P:=λds vs=>∀ {i:Nat},ds[i]?=↑d->∃v,vs[i]?=↑v/\aQ K H O d v) nofun (λr _ q i e=>match i with
  |0=>⟨_,rfl,bg e ▸ r⟩ |i+1=>q (i:=i) e) h
variable{es:er}
def aF.append{es:fh}{ws:fe}(h:aF K H O ds vs)(s:aF K H O es ws):aF K H O (ds++es) (vs++ws):=aF.ind (P:=λds vs=>aF K H O (ds++es) (vs++ws)) s (λr _=>.cons r) h
def aF.take{ds:fh}{vs:fe}(n:Nat)(h:aF K H O ds vs):aF K H O (ds.take n) (vs.take n) :=
 aF.ind (P:=λds vs=>∀n,aF K H O (ds.take n) (vs.take n)) (λn=>by cases n <;> exact .nil) (λr _ q n=>by cases n;exact .nil;exact .cons r (q _)) h n
def aF.drop{ds:fh}{vs:fe}(n:Nat)(h:aF K H O ds vs):aF K H O (ds.drop n) (vs.drop n) :=
 aF.ind (P:=λds vs=>∀n,aF K H O (ds.drop n) (vs.drop n)) (λn=>by cases n <;> exact .nil) (λr t q n=>by cases n;exact .cons r t;exact q _) h n
def aF.set{d:D}{v:V}(r:aQ K H O d v){ds:fh}{vs:fe}(i:Nat)(h:aF K H O ds vs):aF K H O (ds.set i d) (vs.set i v) :=
 aF.ind (P:=λds vs=>∀i,aF K H O (ds.set i d) (vs.set i v)) (λ_=>.nil) (λp t q n=>by cases n;exact .cons r t;exact .cons p (q _)) h i
def aQ.int_{i:Int}(h:aQ K H O ↥i v):v=.int i:=by cases h;rfl
def aQ.bl_{i:Bool}(h:aQ K H O (.bl i) v):v=.bl i:=by cases h;rfl
def aQ.str_{i:Str}(h:aQ K H O (.str i) v):v=.str i:=by cases h;rfl
def aQ.exc_(h:aQ K H O (.exc a) v):v=.ref a:=by cases h;rfl
def aQ.non_(h:aQ K H O .non v):v=.non:=by cases h;rfl
def aQ.tup_(h:aQ K H O (.tup ds) v):∃a vs,v=.ref a/\H a=↑(.tup vs)/\aF K H O ds vs:=by cases h with |tup a b=>exact⟨_,_,rfl,a,b⟩
def fO(K:e5)(H:Hp)(O:Addr->Prop)(a:Addr)(vs:fe):Prop:=(O a/\Rd H a (.lst vs))\/KL K a vs
def fO.sq(h:fO K H O a vs):cK K H a vs:=h.elim (λz=>.inl z.2) .inr
def aQ.lst_(h:aQ K H O (.lst ds) v):∃a vs,v=.ref a/\fO K H O a vs/\aF K H O ds vs:=by
 cases h with
 |lst o a b=>exact⟨_,_,rfl,.inl ⟨o,a⟩,b⟩ |klst a b=>exact⟨_,_,rfl,.inr a,b⟩
inductive Mo where
 |l (vs:fe) |i (C dx:Addr) (fs:List (Str×V))
@[reducible] noncomputable def Mo.out:Mo->HO | .l vs=>.lst vs | .i C dx fs=>.ins C dx fs
inductive Pt where
 |d (d:D) |o (ds:fh)
abbrev fw:=List Pt
inductive AK where
 |ls |ins (b:Bool) (c:Str) (fs:d3)
inductive Sl where
 |sh (d:D) |ow (ds:fh) |o2 (dss:List fh) |ag (k:AK) (r:Option Nat) (ps:fw) |al (r j:Nat) |ro (k:AK) (ps:fw)
abbrev f0:=Option Sl
structure Gd where
 g:Addr->Prop
 r:Nat->ed
instance:CoeFun Gd (λ_=>Addr->Prop):=⟨Gd.g⟩
abbrev gd(g:Addr->Prop):Gd:=⟨g,λ_=>[]⟩
abbrev DE0:=List f0
def Ow(G:Gd)(W:Addr->Prop):Addr->Prop:=λa=>G a/\¬W a
def mn(K:e5)(G:Gd)(W:Addr->Prop)(H:Hp)(dss:List fh)(ls:ed):Prop :=
 ls.length=dss.length/\∀(j:Nat) (ds:fh) (a:Addr),dss[j]?=↑ds->ls[j]?=↑a->W a/\∃vs,H a=↑(.lst vs)/\aF K H (Ow G W) ds vs
inductive aO (K:e5) (G:Gd) (W:Addr->Prop) (H:Hp):fw->ed->fe->Prop
 |nil:aO K G W H [] [] []
 |d {d:D} {v:V} {ps:fw} {as:ed} {us:fe}:aQ K H (Ow G W) d v->aO K G W H ps as us->aO K G W H (.d d::ps) as (v::us)
 |o {ds:fh} {a:Addr} {vs:fe} {ps:fw} {as:ed} {us:fe}:W a->H a=↑(.lst vs)->aF K H (Ow G W) ds vs->aO K G W H ps as us->aO K G W H (.o ds::ps) (a::as) (.ref a::us)
inductive aS (K:e5) (G:Gd) (W:Addr->Prop) (H:Hp):fw->fe->Prop
 |nil:aS K G W H [] []
 |d {d:D} {v:V} {ps:fw} {us:fe}:aQ K H (Ow G W) d v->aS K G W H ps us->aS K G W H (.d d::ps) (v::us)
 |o {ds:fh} {a:Addr} {vs:fe} {ps:fw} {us:fe}:¬W a->H a=↑(.lst vs)->aF K H (Ow G W) ds vs->aS K G W H ps us->aS K G W H (.o ds::ps) (.ref a::us)
def cI(K:e5)(H:Hp):AK->Addr->fe->Prop
 | .ls,p,us=>H p=↑(.lst us) | .ins _ c fs,p,us=>∃C dx,PySem.W.nsIn K mainGlobals c=↑↑(.ref C)/\H p=↑(.ins C dx (fs.zip us))/\fs.length=us.length
def gZ:AK->ed->Addr->ed->Prop
 | .ins true _ _,l,p,_=>l=[p]
 |_,l,p,as=>l=p::as
inductive jU (K:e5) (G:Gd) (W:Addr->Prop) (H:Hp) (ds:fh) (v:V):Prop
 |mk (l:Addr) (vs:fe) (e:v=.ref l) (w:W l) (h:H l=↑(.lst vs)) (r:aF K H (Ow G W) ds vs):jU K G W H ds v
inductive jV (K:e5) (G:Gd) (W:Addr->Prop) (H:Hp) (dss:List fh) (v:V):Prop
 |mk (l:Addr) (ls:ed) (e:v=.ref l) (w:W l) (h:H l=↑(.lst (ls.map V.ref))) (n:(l::ls).Nodup) (r:mn K G W H dss ls):jV K G W H dss v
inductive jW (K:e5) (G:Gd) (W:Addr->Prop) (H:Hp) (k:AK) (r:Option Nat) (ps:fw) (v:V):Prop
 |mk (p:Addr) (as:ed) (us:fe) (e:v=.ref p) (w:W p) (n:(p::as).Nodup) (l:∀n,r=↑n->gZ k (G.r n) p as) (h:cI K H k p us) (q:aO K G W H ps as us):jW K G W H k r ps v
def cJ(K:e5)(G:Gd)(W:Addr->Prop)(H:Hp):Sl->V->Prop
 | .sh d,v=>aQ K H (Ow G W) d v | .ow ds,v=>jU K G W H ds v | .o2 dss,v=>jV K G W H dss v | .ag k r ps,v=>jW K G W H k r ps v | .al r j,v=>∃p as a,G.r r=p::as/\as[j]?=↑a/\v=.ref a | .ro k ps,v=>∃(p:Addr) (us:fe),v=.ref p/\¬W p/\cI K H k p us/\aS K G W H ps us
def u7:fw->fe->Addr->Prop:=λps us a=>∃(j:Nat) (ds:fh),ps[j]?=↑(.o ds)/\us[j]?=↑(.ref a)
def mu(H:Hp):AK->Addr->fe->Prop
 | .ls,p,us=>H p=↑(.lst us) | .ins _ _ fs,p,us=>fs.length=us.length/\∃C dx,H p=↑(.ins C dx (fs.zip us))
def aV(H:Hp):Sl->V->Addr->Prop
 | .sh _,_,_=>False | .ow _,v,a=>v=.ref a | .o2 _,v,a=>v=.ref a\/∃(l:Addr) (ls:ed),v=.ref l/\H l=↑(.lst (ls.map V.ref))/\a∈ls
 | .ag k _ ps,v,a=>v=.ref a\/∃(p:Addr) (us:fe),v=.ref p/\mu H k p us/\u7 ps us a | .al _ _,_,_=>False | .ro _ _,_,_=>False
structure Ok (K:e5) (G:Gd) (H0:Hp) (W:Addr->Prop) (env:DE0) (σ:St) (H:Hp):Prop where
 stay:aU H0 H
 good:∀a,H0 a=none->G a
 wl:∀l,W l->H0 l=none/\∃m:Mo,H l=↑m.out
 slot:∀(i:Nat) (s:Sl),env[i]?=↑↑s->∃v,σ[i]?=↑↑v/\cJ K G W H s v
 uniq:∀(i j:Nat) (s s':Sl) (v v':V) (a:Addr),env[i]?=↑↑s->env[j]?=↑↑s'->σ[i]?=↑↑v->σ[j]?=↑↑v'->aV H s v a->aV H s' v' a->i=j
 len:env.length=σ.length
def qK{ls D:ed}(h:ls.map V.ref=D.map V.ref):ls=D:=by
 induction ls generalizing D with
 |nil=>cases D with |nil=>rfl |cons b r=>cases h
 |cons a t ih=>cases D with |nil=>cases h |cons b r=>simp[List.cons.injEq,V.ref.injEq] at h;rw[h.1,ih h.2]
variable{W:Addr->Prop}{G:Gd}{ps:fw}{as:ed}{us:fe}
def aO.own(h:aO K G W H ps as us)(ha:a∈as):W a/\∃vs,H a=↑(.lst vs):=by
 induction h with
 |nil=>cases ha
 |d _ _ ih=>exact ih ha |o hW hl _ _ ih =>
   rcases bz.mp ha with rfl |ha
   ·exact⟨hW,_,hl⟩
   ·exact ih ha
def aO.parts_iff(h:aO K G W H ps as us):u7 ps us a↔a∈as:=by
 induction h with
 |nil=>exact⟨λ⟨j,ds,e,_⟩=>by simp at e,λz=>by cases z⟩
 |d _ _ ih =>
   rw[<-ih];constructor
   ·rintro⟨j,ds,I,D⟩
    cases j with
    |zero=>simp at I |succ j=>exact⟨j,ds,by simpa using I,by simpa using D⟩
   ·rintro⟨j,ds,I,D⟩
    exact⟨j+1,ds,by simpa using I,by simpa using D⟩
 |o _ _ _ _ ih =>
   rw[bz,<-ih];constructor
   ·rintro⟨j,ds,I,D⟩
    cases j with
    |zero=>simp at D;exact .inl D.symm |succ j=>exact .inr ⟨j,ds,by simpa using I,by simpa using D⟩
   ·rintro(rfl | ⟨j,ds,I,D⟩)
    ·exact⟨0,_,rfl,rfl⟩
    ·exact⟨j+1,ds,by simpa using I,by simpa using D⟩
variable{G':Gd}{W':Addr->Prop}
protected def aO.step(h:aO K G W H ps as us)(k:∀a vs,a∈as->H a=↑(.lst vs)->W' a/\H' a=↑(.lst vs))(r:∀d v,aQ K H (Ow G W) d v->aQ K H' (Ow G' W') d v)(D:∀ds vs,aF K H (Ow G W) ds vs->aF K H' (Ow G' W') ds vs):aO K G' W' H' ps as us:=by
 induction h with
 |nil=>exact .nil |d q _ ih=>exact .d (r _ _ q) (ih k) |o hW hl q _ ih =>
   obtain⟨I,S⟩:=k _ _ ay hl;exact .o I S (D _ _ q) (ih λa vs U=>k a vs (ai _ U))
protected def aS.step(h:aS K G W H ps us)(k:∀a vs,¬W a->H a=↑(.lst vs)->¬W' a/\H' a=↑(.lst vs))(r:∀d v,aQ K H (Ow G W) d v->aQ K H' (Ow G' W') d v)(D:∀ds vs,aF K H (Ow G W) ds vs->aF K H' (Ow G' W') ds vs):aS K G' W' H' ps us:=by
 induction h with
 |nil=>exact .nil |d q _ ih=>exact .d (r _ _ q) ih |o hW hl q _ ih=>obtain⟨I,S⟩:=k _ _ hW hl;exact .o I S (D _ _ q) ih
variable{j:Nat}
def aS.get(h:aS K G W H ps us)(e:ps[j]?=↑(.o ds)):∃a vs,us[j]?=↑(.ref a)/\¬W a/\H a=↑(.lst vs)/\aF K H (Ow G W) ds vs:=by
 induction h generalizing j with
 |nil=>simp at e |d _ _ ih =>
   cases j with
   |zero=>simp at e |succ j=>obtain⟨a,vs,h1,h2⟩:=ih (j:=j) (by simpa using e);exact⟨a,vs,by simpa using h1,h2⟩
 | @o _ a vs _ _ hW hl r _ ih =>
   cases j with
   |zero=>simp at e;subst e;exact⟨a,vs,rfl,hW,hl,r⟩ |succ j=>obtain⟨a,vs,h1,h2⟩:=ih (j:=j) (by simpa using e);exact⟨a,vs,by simpa using h1,h2⟩
def aS.getD(h:aS K G W H ps us)(e:ps[j]?=↑(.d d)):∃v,us[j]?=↑v/\aQ K H (Ow G W) d v:=by
 induction h generalizing j with
 |nil=>simp at e |d q _ ih =>
   cases j with
   |zero=>simp at e;subst e;exact⟨_,rfl,q⟩ |succ j=>obtain⟨a,h1,h2⟩:=ih (j:=j) (by simpa using e);exact⟨a,by simpa using h1,h2⟩
 |o _ _ _ _ ih =>
   cases j with
   |zero=>simp at e |succ j=>obtain⟨a,h1,h2⟩:=ih (j:=j) (by simpa using e);exact⟨a,by simpa using h1,h2⟩
variable{k:AK}{p:Addr}
theorem qa{D:fe}(h:cI K H k p us)(h':mu H k p D):D=us:=by
 cases k with
 |ls=>have h:H p=_:=h;have h':H p=_:=h';rw[h] at h';cases h';rfl
 |ins b c fs =>
   obtain⟨C,dx,_,I,U⟩:=h;obtain⟨Y,a,S,e⟩:=h';rw[I] at e;have e:fs.zip us=fs.zip D:=by injection e with e;injection e
   have:=congrArg (List.map Prod.snd) e;rw[me ∅,me ∅] at this;exact this.symm
protected def cI.o{K:e5}{H:Hp}{k:AK}{p:Addr}{us:fe}(h:cI K H k p us):mu H k p us:=by
 cases k with
 |ls=>exact h |ins b c fs=>obtain⟨C,dx,_,D,I⟩:=h;exact⟨I,C,dx,D⟩
def cI.mo(h:cI K H k p us):∃m:Mo,H p=↑m.out/\∀H',H' p=↑m.out->cI K H' k p us:=by
 cases k with
 |ls=>exact⟨.l us,h,λH' e=>e⟩ |ins b c fs=>obtain⟨C,dx,D,I,S⟩:=h;exact⟨.i C dx (fs.zip us),I,λH' e=>⟨C,dx,D,e,S⟩⟩
def cJ.owns(h:cJ K G W H s v)(o:aV H s v a):W a:=by
 cases s with
 |sh d=>exact o.elim |ow ds=>obtain⟨l,vs,e,D,_⟩:=h;rw[show v=.ref a from o] at e;cases e;exact D
 |o2 dss =>
   obtain⟨l,ls,e,D,V,Y,hi⟩:=h;rcases o with o | ⟨l',ls',e',hl',ha⟩
   ·rw[o] at e;cases e;exact D
   ·rw[e] at e';cases e'
    rw[V] at hl';have:=qK (by simpa using hl');subst this;obtain⟨j,S,b⟩:=List.getElem_of_mem ha;have I:j<dss.length:=by rw[<-hi.1];exact S
    exact(hi.2 j dss[j] a (by simp[I]) (by simp[S,b])).1
 |ag k r ps =>
   obtain⟨p,as,us,e,D,Y,f,c,U⟩:=h;rcases o with o | ⟨p',us',e',hk',ha⟩
   ·rw[o] at e;cases e;exact D
   ·rw[e] at e';cases e'
    rw[qa c hk'] at ha;exact(U.own (U.parts_iff.mp ha)).1
 |al _ _=>exact o.elim |ro _ _=>exact o.elim
def cJ.back(h:cJ K G W H s v)(k:∀l,v=.ref l->W l->∀m:Mo,H l=↑m.out->H' l=↑m.out)(o:aV H' s v a):aV H s v a:=by
 cases s with
 |sh d=>exact o.elim |ow ds=>exact o |o2 dss =>
   obtain⟨l,ls,e,D,I,U,hi⟩:=h;rcases o with o | ⟨l',ls',e',hl',ha⟩
   ·exact .inl o
   ·rw[e] at e';cases e'
    rw[k l e D (.l _) I] at hl';have:=qK (by simpa using hl');subst this;exact .inr ⟨l,ls,e,I,ha⟩
 |ag q r ps =>
   obtain⟨p,as,us,e,D,U,b,S,c⟩:=h;rcases o with o | ⟨p',us',e',hk',ha⟩
   ·exact .inl o
   ·rw[e] at e';cases e'
    obtain⟨m,V,Y⟩:=S.mo;rw[qa (Y H' (k p e D m V)) hk'] at ha;exact .inr ⟨p,us,e,S.o,ha⟩
 |al _ _=>exact o.elim |ro _ _=>exact o.elim
structure Step (W:Addr->Prop) (H:Hp) (W':Addr->Prop) (H':Hp):Prop where
 keep:∀b o,H b=↑o->¬W b->H' b=↑o
 ws:∀l,W' l->W l\/H l=none
def Step.refl:Step W H W H:=⟨λ_ _ e _=>e,λ_ h=>.inl h⟩
variable{W1:Addr->Prop}
def Step.trans{D:Addr->Prop}(a:Step W H W1 H1)(b:Step W1 H1 D H2):Step W H D H2 where
 keep:=λc o e n=>b.keep c o (a.keep c o e n) λz=>(a.ws c z).elim n λq=>by rw[q] at e;cases e
 ws:=λl h=>by
  rcases b.ws l h with z |z
  ·exact a.ws l z
  ·by_cases n:W l
   ·exact .inl n
   ·cases e:H l with
    |none=>exact .inr rfl |some o=>rw[a.keep l o e n] at z;cases z
def Step.same(h:aU H H'):Step W H W H':=⟨λb o e _=>h b o e,λ_ h=>.inl h⟩
variable{env:DE0}{H0:Hp}
def Ok.wkeep(ok:Ok K G H0 W env σ H)(st:Step W H W' H'):∀b o,H b=↑o->(∀m:Mo,o≠m.out)->H' b=↑o:=λb o e n =>
 st.keep b o e λz=>by obtain⟨_,m,q⟩:=ok.wl b z;rw[e] at q;exact n m (bg q)
def Rd.keep{u:HO}(h:Rd H a u)(k:∀o,H a=↑o->H' a=↑o):Rd H' a u:=by
 rcases h with h | ⟨o,h⟩
 ·exact .inl (k _ h)
 ·exact .inr ⟨o,k _ h⟩
def Ok.tstep(ok:Ok K G H0 W env σ H)(st:Step W H W' H'):∀a vs,H a=↑(.tup vs)->H' a=↑(.tup vs):=λ_ _ h=>ok.wkeep st _ _ h λm z=>by cases m <;> cases z
def Ok.istep(ok:Ok K G H0 W env σ H)(st:Step W H W' H'):∀a (u:Im),H a=↑u.out->H' a=↑u.out:=λ_ u h=>ok.wkeep st _ _ h λm z=>by cases u <;> cases m <;> cases z
def Ok.lstep(ok:Ok K G H0 W env σ H)(st:Step W H W' H'):∀a vs,Ow G W a->Rd H a (.lst vs)->Ow G W' a/\Rd H' a (.lst vs):=λa vs o h=>by
 refine⟨⟨o.1,λz=>?_⟩,h.keep λu e=>st.keep a u e o.2⟩;rcases st.ws a z with q |q
 ·exact o.2 q
 ·rcases h with h | ⟨_,h⟩ <;> rw[q] at h <;> cases h
def Ok.lsstep(ok:Ok K G H0 W env σ H)(st:Step W H W' H')(h:fO K H (Ow G W) a vs):fO K H' (Ow G W') a vs:=h.elim (λz=>.inl (ok.lstep st a vs z.1 z.2)) .inr
def Ok.rep(ok:Ok K G H0 W env σ H)(st:Step W H W' H')(r:aQ K H (Ow G W) d v):aQ K H' (Ow G W') d v:=r.mono (ok.istep st) (ok.lstep st)
def Ok.reps(ok:Ok K G H0 W env σ H)(st:Step W H W' H'){d:fh}{v:fe}(r:aF K H (Ow G W) d v):aF K H' (Ow G W') d v:=r.mono (ok.istep st) (ok.lstep st)
def Ok.slstep(ok:Ok K G H0 W env σ H)(st:Step W H W' H')(h:cJ K G W H s v)(k:∀a (m:Mo),aV H s v a->H a=↑m.out->W' a/\H' a=↑m.out):cJ K G W' H' s v:=by
 cases s with
 |sh d=>exact ok.rep st h |ow ds =>
   obtain⟨l,vs,e,I,U,r⟩:=h;obtain⟨h1,h2⟩:=k l (.l vs) e U;exact⟨l,vs,e,h1,h2,ok.reps st r⟩
 |o2 dss =>
   obtain⟨l,ls,e,I,U,c,hi⟩:=h;obtain⟨h1,h2⟩:=k l (.l _) (.inl e) U;have t:∀a vs,a∈ls->H a=↑(.lst vs)->W' a/\H' a=↑(.lst vs):=λa vs S D=>k a (.l vs) (.inr ⟨l,ls,e,U,S⟩) D;refine⟨l,ls,e,h1,h2,c,hi.1,λj ds a u D=>?_⟩;obtain⟨_,vs,S,w⟩:=hi.2 j ds a u D;obtain⟨k1,k2⟩:=t a vs (br D) S;exact⟨k1,vs,k2,ok.reps st w⟩
 |ag q r ps =>
   obtain⟨p,as,us,e,I,c,x,V,Y⟩:=h;obtain⟨m,b,f⟩:=V.mo;obtain⟨h1,h2⟩:=k p m (.inl e) b;exact⟨p,as,us,e,h1,c,x,f H' h2,Y.step (λa vs S D=>k a (.l vs) (.inr ⟨p,us,e,V.o,Y.parts_iff.mpr S⟩) D) (λ_ _ r=>ok.rep st r) λ_ _ r=>ok.reps st r⟩
 |al _ _=>exact h |ro q ps =>
   obtain⟨p,us,e,I,V,Y⟩:=h;have g:∀a o,¬W a->H a=↑o->¬W' a:=λa o n e z=>(st.ws a z).elim n λy=>by rw[y] at e;cases e
   obtain⟨m,b,f⟩:=V.mo;exact⟨p,us,e,g p _ I b,f H' (st.keep p _ b I),Y.step (λa vs i D=>⟨g a _ i D,st.keep a _ D i⟩) (λ_ _ r=>ok.rep st r) λ_ _ r=>ok.reps st r⟩
def Ok.same(ok:Ok K G H0 W env σ H)(s:aU H H'):Ok K G H0 W env σ H':=by
 have st:Step W H W H':=Step.same s;have bk:∀ {i:Nat} {sl:Sl} {v:V} {a:Addr},env[i]?=↑↑sl->σ[i]?=↑↑v->aV H' sl v a->aV H sl v a:=λ{i sl v a} e I o=>by
  obtain⟨k,D,h⟩:=ok.slot i sl e;rw[I] at D;cases D;exact h.back (λl _ _ vs q=>s l _ q) o
 refine⟨ok.stay.trans s,ok.good,λl h=>?_,λi sl e=>?_,λi j Y s2 c d a I D S U f g=>ok.uniq i j Y s2 c d a I D S U (bk I S f) (bk D U g),ok.len⟩
 ·obtain⟨a,vs,b⟩:=ok.wl l h
  exact⟨a,vs,s _ _ b⟩
 ·obtain⟨v,I,h⟩:=ok.slot i sl e
  exact⟨v,I,ok.slstep st h λa vs o D=>⟨h.owns o,s _ _ D⟩⟩
def we{o:HO}(h:H a=none):aU H (aR H a o):=λb u e=>by rw[e8 (kt e h)];exact e
def b_(W:Addr->Prop)(l:Addr):Addr->Prop:=λa=>W a\/a=l
def Ok.fresh(ok:Ok K G H0 W env σ H)(s:aU H H')(D:H l=none)(I:H' l=↑(.lst vs))(r:aF K H' (λa=>(Ow G W a\/H a=none)/\a≠l) ds vs) :
  ¬W l/\H0 l=none/\Ok K G H0 (b_ W l) env σ H'/\aF K H' (Ow G (b_ W l)) ds vs/\Step W H (b_ W l) H':=by
 have U:H0 l=none:=ok.stay.free D;have V:¬W l:=λz=>by obtain⟨_,vs,q⟩:=ok.wl l z;rw[D] at q;cases q
 have st:Step W H (b_ W l) H':=⟨λb o e _=>s b o e,λa z=>z.elim .inl λq=>.inr (by rw[q];exact D)⟩;have Y:∀a,W a->H a≠none:=λa z q=>by obtain⟨_,vs,e⟩:=ok.wl a z;rw[q] at e;cases e
 have S:=ok.same s;refine⟨V,U,⟨ok.stay.trans s,ok.good,λa z=>?_,λi sl e=>?_,S.uniq,ok.len⟩,r.mono (λ_ _ h=>h) λa us o h=>⟨⟨?_,?_⟩,h⟩,st⟩
 ·rcases z with z |rfl
  ·obtain⟨q,us,b⟩:=ok.wl a z
   exact⟨q,us,s _ _ b⟩
  ·exact⟨U,.l vs,I⟩
 ·obtain⟨v,c,h⟩:=ok.slot i sl e
  exact⟨v,c,ok.slstep st h λa vs o d=>⟨.inl (h.owns o),s _ _ d⟩⟩
 ·rcases o.1 with q |q
  ·exact q.1
  ·exact ok.good a (ok.stay.free q)
 ·rintro(z |z)
  ·rcases o.1 with q |q
   ·exact q.2 z
   ·exact Y a z q
  ·exact o.2 z
def Ok.noOwn(ok:Ok K G H0 W env σ H)(I:¬W l):∀(j:Nat) (s:Sl) (v:V),env[j]?=↑↑s->σ[j]?=↑↑v->¬aV H s v l:=λj s v e S o=>by
 obtain⟨U,D,h⟩:=ok.slot j s e;rw[S] at D;cases D;exact I (h.owns o)
variable{α:Type}
def yD{N:List α}(D:N.Nodup){x:α}(a:N[i]?=↑x)(b:N[j]?=↑x):i=j:=by
 obtain⟨h1,I⟩:=ah.mp a;obtain⟨h2,S⟩:=ah.mp b;exact(List.getElem_inj D).mp (I.trans S.symm)
theorem l9{xs:List α}{x y:α}(h:(xs.set i x)[j]?=↑y):(i=j/\y=x/\i<xs.length)\/(i≠j/\xs[j]?=↑y):=by
 by_cases D:i=j
 ·subst D
  by_cases hi:i<xs.length
  ·rw[cu hi] at h;cases h;exact .inl ⟨rfl,rfl,hi⟩
  ·rw[dg (by rw[de];lia)] at h;cases h
 ·rw[b8 D] at h;exact .inr ⟨D,h⟩
def Ok.put(ok:Ok K G H0 W env σ H)(h:cJ K G W H s v)(d:∀(j:Nat) (s':Sl) (f:V) (a:Addr),env[j]?=↑↑s'->σ[j]?=↑↑f->aV H s v a->¬aV H s' f a) :
  Ok K G H0 W (env.set i ↑s) (σ.set i ↑v) H:=by
 refine⟨ok.stay,ok.good,ok.wl,λj sl e=>?_,λj k g s2 l m a Y n D I b c=>?_,by rw[de,de,ok.len]⟩
 ·rcases l9 e with⟨rfl,q,hi⟩ | ⟨hj,q⟩
  ·cases q
   exact⟨v,cu (by rw[<-ok.len];exact hi),h⟩
  ·obtain⟨u,Y,r⟩:=ok.slot j sl q
   exact⟨u,by rw[b8 hj];exact Y,r⟩
 ·rcases l9 Y with⟨a1,b1,c1⟩ | ⟨a1,b1⟩ <;> rcases l9 n with⟨S,U,o⟩ | ⟨S,U⟩
  ·rw[<-a1,<-S]
  ·subst a1
   cases b1;rw[cu (by rw[<-ok.len];exact c1)] at D;cases D;rw[b8 S] at I;exact absurd c (d k s2 m a U I b)
  ·subst S
   cases U;rw[cu (by rw[<-ok.len];exact o)] at I;cases I;rw[b8 a1] at D;exact absurd b (d j g l a b1 D c)
  ·rw[b8 a1] at D
   rw[b8 S] at I;exact ok.uniq j k g s2 l m a b1 U D I b c
def Ok.set(ok:Ok K G H0 W env σ H)(r:aQ K H (Ow G W) d v):Ok K G H0 W (env.set i ⇑d) (σ.set i ↑v) H :=
 ok.put (s:=.sh d) r λ_ _ _ _ _ _ o=>o.elim
def Ok.setO(ok:Ok K G H0 W env σ H)(D:W l)(I:H l=↑(.lst vs))(r:aF K H (Ow G W) ds vs)(S:∀(j:Nat) (s:Sl) (v:V),env[j]?=↑↑s->σ[j]?=↑↑v->¬aV H s v l) :
  Ok K G H0 W (env.set i ↑(.ow ds)) (σ.set i ↑(.ref l)) H :=
 ok.put (s:=.ow ds) ⟨l,vs,rfl,D,I,r⟩ λj s' U a e Y o=>by
  have:l=a:=by have o:V.ref l=V.ref a:=o;simpa using o
  subst this;exact S j s' U e Y
def Ok.let(ok:Ok K G H0 W env σ H)(e:env[i]?=↑↑s)(Y:σ[i]?=↑↑v)(W':Addr->Prop)(I:∀a,W' a↔W a/\¬aV H s v a)(r:aQ K H (Ow G W') d v) :
  Step W H W' H/\Ok K G H0 W' (env.set i ⇑d) σ H:=by
 have st:Step W H W' H:=⟨λb o q _=>q,λa z=>.inl ((I a).mp z).1⟩;refine⟨st,⟨ok.stay,ok.good,λa z=>ok.wl a ((I a).mp z).1,λj sl q=>?_,λj k l s2 m n a p S t w c f=>?_,by rw[de,ok.len]⟩⟩
 ·rcases l9 q with⟨rfl,D,_⟩ | ⟨hj,D⟩
  ·cases D
   exact⟨v,Y,r⟩
  ·obtain⟨u,g,h⟩:=ok.slot j sl D
   exact⟨u,g,ok.slstep st h λa vs o S=>⟨(I a).mpr ⟨h.owns o,λz=>hj (ok.uniq i j s sl v u a e D Y g z o)⟩,S⟩⟩
 ·rcases l9 p with⟨_,U,_⟩ | ⟨a1,U⟩
  ·cases U;exact c.elim
  ·rcases l9 S with⟨_,V,_⟩ | ⟨a2,V⟩
   ·cases V;exact f.elim
   ·exact ok.uniq j k l s2 m n a U V t w c f
def Ok.share(ok:Ok K G H0 W env σ H)(e:env[i]?=↑↑(.ow ds)) :
  ∃W' v,σ[i]?=↑↑v/\Step W H W' H/\Ok K G H0 W' (env.set i ⇑(.lst ds)) σ H/\aQ K H (Ow G W') (.lst ds) v:=by
 obtain⟨v,I,l,vs,rfl,U,V,r⟩:=ok.slot i _ e;have S:aQ K H (Ow G λa=>W a/\¬aV H (.ow ds) (.ref l) a) (.lst ds) (.ref l) :=
  .lst ⟨ok.good l (ok.wl l U).1,λz=>z.2 rfl⟩ (.inl V) (r.mono (λ_ _ h=>h) λa us o h=>⟨⟨o.1,λz=>o.2 z.1⟩,h⟩)
 obtain⟨st,D⟩:=ok.let e I _ (λa=>Iff.rfl) S;exact⟨_,.ref l,I,st,D,S⟩
def m1:∀ {dss:List fh} {ls:ed},mn K G W H dss ls->(∀a,a∈ls->W a->G a/\¬W' a)->(∀ds vs,aF K H (Ow G W) ds vs->aF K H (Ow G W') ds vs)->aF K H (Ow G W') (dss.map D.lst) (ls.map V.ref)
 | [],[],_,_,_=>.nil |ds::dss,a::ls,h,g,r=>by
   obtain⟨U,vs,Y,b⟩:=h.2 0 ds a rfl rfl;refine .cons (.lst (g a ay U) (.inl Y) (r _ _ b)) (m1 (dss:=dss) (ls:=ls) ⟨Nat.succ.inj h.1,λj ds' I c d=>h.2 (j+1) ds' I (by simpa using c) (by simpa using d)⟩ (λI S=>g I (ai _ S)) r)
def Ok.share2(ok:Ok K G H0 W env σ H){dss:List fh}(e:env[i]?=↑↑(.o2 dss)) :
  ∃W' v,σ[i]?=↑↑v/\Step W H W' H/\Ok K G H0 W' (env.set i ⇑(.lst (dss.map D.lst))) σ H/\aQ K H (Ow G W') (.lst (dss.map D.lst)) v:=by
 obtain⟨v,S,l,ls,rfl,Y,U,d,hi⟩:=ok.slot i _ e;have V:aQ K H (Ow G λa=>W a/\¬aV H (.o2 dss) (.ref l) a) (.lst (dss.map D.lst)) (.ref l) :=
  .lst ⟨ok.good l (ok.wl l Y).1,λz=>z.2 (.inl rfl)⟩ (.inl U) (m1 hi (λa b c=>⟨ok.good a (ok.wl a c).1,λz=>z.2 (.inr ⟨l,ls,rfl,U,b⟩)⟩) λds vs r=>r.mono (λ_ _ h=>h) λa us o h=>⟨⟨o.1,λz=>o.2 z.1⟩,h⟩)
 obtain⟨st,I⟩:=ok.let e S _ (λa=>Iff.rfl) V;exact⟨_,.ref l,S,st,I,V⟩
def Ok.chg(ok:Ok K G H0 W env σ H){s':Sl}(S:Mo)(e:env[i]?=↑↑s)(t:σ[i]?=↑↑v)(y:aV H s v a)(A:cJ K G W (aR H a S.out) s' v)(w:∀b,aV (aR H a S.out) s' v b->aV H s v b):Ok K G H0 W (env.set i ↑s') σ (aR H a S.out)/\Step W H W (aR H a S.out):=by
 have f:W a:=by obtain⟨P,g,h⟩:=ok.slot i s e;rw[t] at g;cases g;exact h.owns y
 have st:Step W H W (aR H a S.out):=⟨λb o q n=>by rw[e8 (λz:b=a=>n (by rw[z];exact f))];exact q,λb z=>.inl z⟩;have x:∀ {j:Nat} {sl:Sl} {u:V} {b:Addr},i≠j->env[j]?=↑↑sl->σ[j]?=↑↑u->aV H sl u b->b≠a:=λ{j sl u b} hj q D o z=>by
  subst z;exact hj (ok.uniq i j s sl v u b e q t D y o)
 have bk:∀ {j:Nat} {sl:Sl} {u:V} {b:Addr},i≠j->env[j]?=↑↑sl->σ[j]?=↑↑u->aV (aR H a S.out) sl u b->aV H sl u b:=λ{j sl u b} hj q D o=>by
  obtain⟨Q,U,h⟩:=ok.slot j sl q;rw[D] at U;cases U;cases sl with
  |sh d=>exact o.elim |ow ds=>exact o |o2 dss=>exact h.back (λl Y _ vs c=>by rw[e8 (x hj q D (.inl Y))];exact c) o |ag k p ps=>exact h.back (λl Y _ vs c=>by rw[e8 (x hj q D (.inl Y))];exact c) o |al _ _=>exact o.elim |ro _ _=>exact o.elim
 refine⟨⟨λb o q=>?_,ok.good,λb z=>?_,λj sl q=>?_,λj k R s2 B C b D U Y c E o2=>?_,by rw[de,ok.len]⟩,st⟩
 ·rw[e8 (λz=>by rw[z,(ok.wl a f).1] at q;cases q)];exact ok.stay b o q
 ·obtain⟨q,us,w⟩:=ok.wl b z
  by_cases h:b=a
  ·exact⟨q,S,by rw[h,j9]⟩
  ·exact⟨q,us,by rw[e8 h];exact w⟩
 ·rcases l9 q with⟨rfl,I,_⟩ | ⟨hj,I⟩
  ·cases I
   exact⟨v,t,A⟩
  ·obtain⟨u,g,h⟩:=ok.slot j sl I
   exact⟨u,g,ok.slstep st h λb vs o U=>⟨h.owns o,by rw[e8 (x hj I g o)];exact U⟩⟩
 ·have back:∀ {m:Nat} {sl:Sl} {u:V},(env.set i ↑s')[m]?=↑↑sl->σ[m]?=↑↑u->aV (aR H a S.out) sl u b->∃r,env[m]?=↑↑r/\aV H r u b:=λ{m sl u} q D o=>by
   rcases l9 q with⟨rfl,I,_⟩ | ⟨hj,I⟩
   ·cases I
    rw[t] at D;cases D;exact⟨s,e,w b o⟩
   ·exact⟨sl,I,bk hj I D o⟩
  obtain⟨F,J,L⟩:=back D Y E;obtain⟨M,N,O⟩:=back U c o2;exact ok.uniq j k F M B C b J N Y c L O
variable{ds':fh}{vs':fe}
def Ok.turn(ok:Ok K G H0 W env σ H)(e:env[i]?=↑↑(.ow ds))(I:σ[i]?=↑↑(.ref l))(r:aF K H (Ow G W) ds' vs') :
  Ok K G H0 W (env.set i ↑(.ow ds')) σ (aR H l (.lst vs'))/\Step W H W (aR H l (.lst vs')):=by
 obtain⟨v,D,U,vs,rfl,S,V,_⟩:=ok.slot i _ e;rw[I] at D;cases D;have st:Step W H W (aR H l (.lst vs')):=⟨λb o q n=>by rw[e8 (λz:b=l=>n (by rw[z];exact S))];exact q,λb z=>.inl z⟩;exact ok.chg (.l vs') e I (show aV H (.ow ds) (.ref l) l from rfl) ⟨l,vs',rfl,S,j9,ok.reps st r⟩ λb o=>o
def aO.get(h:aO K G W H ps as us)(e:ps[j]?=↑(.o ds)):∃a vs,us[j]?=↑(.ref a)/\a∈as/\W a/\H a=↑(.lst vs)/\aF K H (Ow G W) ds vs:=by
 induction h generalizing j with
 |nil=>simp at e |d _ _ ih =>
   cases j with
   |zero=>simp at e |succ j=>obtain⟨a,vs,h1,h2⟩:=ih (j:=j) (by simpa using e);exact⟨a,vs,by simpa using h1,h2⟩
 | @o _ a vs _ _ _ hW hl r _ ih =>
   cases j with
   |zero=>simp at e;subst e;exact⟨a,vs,rfl,ay,hW,hl,r⟩ |succ j=>obtain⟨a,vs,h1,h2,D⟩:=ih (j:=j) (by simpa using e);exact⟨a,vs,by simpa using h1,ai _ h2,D⟩
def aO.getD(h:aO K G W H ps as us)(e:ps[j]?=↑(.d d)):∃v,us[j]?=↑v/\aQ K H (Ow G W) d v:=by
 induction h generalizing j with
 |nil=>simp at e |d q _ ih =>
   cases j with
   |zero=>simp at e;subst e;exact⟨_,rfl,q⟩ |succ j=>obtain⟨a,h1,h2⟩:=ih (j:=j) (by simpa using e);exact⟨a,by simpa using h1,h2⟩
 |o _ _ _ _ ih =>
   cases j with
   |zero=>simp at e |succ j=>obtain⟨a,h1,h2⟩:=ih (j:=j) (by simpa using e);exact⟨a,by simpa using h1,h2⟩
def aO.set(st:Step W H W (aR H a (.lst vs')))(ok:Ok K G H0 W env σ H)(h:aO K G W H ps as us)(I:as.Nodup)(e:ps[j]?=↑(.o ds))(D:us[j]?=↑(.ref a))(r:aF K H (Ow G W) ds' vs') :
  aO K G W (aR H a (.lst vs')) (ps.set j (.o ds')) as us:=by
 induction h generalizing j with
 |nil=>simp at e |d q t ih =>
   cases j with
   |zero=>simp at e |succ j=>exact .d (ok.rep st q) (ih I (by simpa using e) (by simpa using D))
 | @o es b vs ps' as' us' hW hl q t ih =>
   cases j with
   |zero =>
     simp at D;subst D;refine .o hW j9 (ok.reps st r) (t.step (λb vs S D=>⟨(t.own S).1,?_⟩) (λ_ _ r=>ok.rep st r) λ_ _ r=>ok.reps st r);rw[e8 (λz:b=_=>by subst z;exact(cb.mp I).1 S)];exact D
   |succ j =>
     have U:a∈as':=t.parts_iff.mp ⟨j,ds,e,D⟩;have V:b≠a:=λz=>by subst z;exact(cb.mp I).1 U
     exact .o hW (by rw[e8 V];exact hl) (ok.reps st q) (ih (cb.mp I).2 e D)
variable{b:Expr}
def yE{b:Addr}(e:ps[j]?=↑(.o ds))(h:u7 (ps.set j (.o ds')) us b):u7 ps us b:=by
 obtain⟨i,es,h1,h2⟩:=h;rcases l9 h1 with⟨rfl,_,_⟩ | ⟨_,z⟩
 ·exact⟨j,ds,e,h2⟩
 ·exact⟨i,es,z,h2⟩
variable{r:R2}
def Ok.turnP(ok:Ok K G H0 W env σ H){r:Option Nat}(e:env[i]?=↑↑(.ag k r ps))(t:σ[i]?=↑↑(.ref p))(S:cI K H k p us)(U:ps[j]?=↑(.o ds))(V:us[j]?=↑(.ref a))(w:aF K H (Ow G W) ds' vs') :
  Ok K G H0 W (env.set i ↑(.ag k r (ps.set j (.o ds')))) σ (aR H a (.lst vs'))/\Step W H W (aR H a (.lst vs')):=by
 obtain⟨v,D,p',as,Y,rfl,x,c,y,d,f⟩:=ok.slot i _ e;rw[t] at D;cases D;have:=qa d S.o;subst this;have u:a∈as:=f.parts_iff.mp ⟨j,ds,U,V⟩;have g:=(f.own u).1;have st:Step W H W (aR H a (.lst vs')):=⟨λb o q n=>by rw[e8 (λz:b=a=>n (by rw[z];exact g))];exact q,λb z=>.inl z⟩;have h:p≠a:=λz=>by subst z;exact(cb.mp c).1 u
 have s:=aO.set st ok f (cb.mp c).2 U V w;obtain⟨m,A,B⟩:=S.mo;have I:cI K (aR H a (.lst vs')) k p us:=B _ (by rw[e8 h];exact A);refine ok.chg (.l vs') e t (.inr ⟨p,us,rfl,S.o,j,ds,U,V⟩) ⟨p,as,us,rfl,x,c,y,I,s⟩ λb o=>?_;rcases o with o | ⟨p',Y,z,q,hb⟩
 ·exact .inl o
 ·cases z
  rw[qa I q] at hb;exact .inr ⟨p,us,rfl,S.o,yE U hb⟩
structure At (X:Cx) (i:Nat) (x:Str):Prop where
 n:X.N[i]?=↑x
 v:iL X.env.scope x
 d:(x==("__debug__" : Str))=false
 c:(x==("__classdict__" : Str))=false
def At.pe(h:At X i x):PE X (.Name x pos) (gE i):=uZ h.n h.v h.d h.c
structure To (X:Cx) (i:Nat) (x:Str):Prop where
 nd:X.N.Nodup
 n:X.N[i]?=↑x
 l:Loc X.env.scope x
 f:X.fn x=true\/X.env.scope.names.lookup x=some .local
structure Bn (X:Cx) (x:Str):Prop where
 g:Gl X x
 m:X.mg x=none
structure bI (N cs:d3) (X:Cx):Prop where
 n:X.N=N
 get:∀i x,N[i]?=↑x->At X i x
 ck:∀u∈cs,X.env.kindOf u=some .cell\/X.env.kindOf u=some .free
structure cS (N:d3) (X:Cx):Prop where
 to:∀i x,N[i]?=↑x->To X i x
variable{N cs:d3}
protected def bI.a(h:bI N cs X)(e:N[i]?=↑x):At X i x:=h.get i x e
protected def cS.t(h:cS N X)(e:N[i]?=↑x):To X i x:=h.to i x e
def bI.nox(h:bI N cs X):bI N cs X.nox:=⟨h.n,λi x e=>let z:=h.get i x e;⟨z.n,z.v,z.d,z.c⟩,h.ck⟩
def cS.nox(h:cS N X):cS N X.nox:=⟨λi x e=>let z:=h.to i x e;⟨z.nd,z.n,z.l,z.f⟩⟩
def fV(x:Str):Bool:=!(x==("__debug__" : Str)) && !(x==("__classdict__" : Str))
def oh(h:fV x=true):(x==("__debug__" : Str))=false/\(x==("__classdict__" : Str))=false:=by
 unfold fV at h;rwa [df,i3,i3] at h
variable{k:Nat}
def o5{o:Option NameKind}{k:NameKind}(h:(o==↑k)=true):o=↑k:=by
 cases o with
 |none=>cases h
 |some a=>cases a <;> cases k <;> first |rfl |cases h
def a_(N:d3)(ix:ee):d3:=ix.map λi=>N.getD i ("" : Str)
def nz(N cs:d3)(ix:ee)(y:Str)(sc:Scope):Bool:=decide ((y::a_ N ix).Nodup) && decide (sc.kind=.function) && (sc.names.lookup y==some .local) && decide (∀z∈sc.names,z.2≠.cell) && decide (∀z∈sc.names,z.2=.local->sc.names.lookup z.1=some .local) && decide (∀z∈sc.names,z.2=.free->z.1∈a_ N ix) && (a_ N ix).all (λu=>(sc.names.lookup u==some .free) && cs.elem u) && (y::a_ N ix).all fV
def m2(h:X.env.scope.names.lookup x=some .globalImplicit):Gl X x:=h
variable{s:Shared}
def yF(h:sc.names.lookup x=some .local):iL (ir X y N' sc cl C s H fp).env.scope x:=.inl (lg h)
def yG(h:sc.names.lookup x=some .free):iL (ir X y N' sc cl C s H fp).env.scope x:=.inr (x6 h)
def ub(hA:bI N cs X)(h:nz N cs ix y sc=true):za X y (a_ N ix) ix sc:=by
 unfold nz at h;simp only[df,lh,ft] at h;obtain⟨⟨⟨⟨⟨⟨⟨h1,h2⟩,I⟩,S⟩,U⟩,V⟩,D⟩,_⟩:=h;exact⟨by rw[hA.n];rfl,h1,h2,o5 I,S,U,λz Y a=>hA.ck z.1 (List.mem_of_elem_eq_true (D z.1 (V z Y a)).2),λu b=>o5 (D u b).1⟩
def rn(h:nz N cs ix y sc=true):bI (y::a_ N ix) (a_ N ix) (ir X y (a_ N ix) sc cl C s₂ H₂ fp):=by
 unfold nz at h;simp only[df,lh,ft] at h;obtain⟨⟨⟨⟨⟨⟨⟨h1,h2⟩,S⟩,V⟩,Y⟩,a⟩,D⟩,I⟩:=h;refine⟨rfl,λi x e=>⟨e,?_,(oh (I x (br e))).1,(oh (I x (br e))).2⟩,λu U=>?_⟩
 ·rcases bz.mp (br e) with rfl |hm
  ·exact yF (o5 S)
  ·exact yG (o5 (D x hm).1)
 ·exact x6 (env:=X.env) (o5 (D u U).1)
abbrev FE:=DE0->Option (D×DE0)
abbrev FT:=DE0->Option (Bool×DE0)
abbrev FA:=DE0->Option (fh×DE0)
inductive DP (K:e5) (G:Gd) (H0:Hp) {β:Type} (f:DE0->Option (β×DE0)) (P:(Addr->Prop)->DE0->β->DE0->Prop) (σ:St) (H:Hp):Prop
 |mk (W:Addr->Prop) (env:DE0) (d:β) (env':DE0) (ok:Ok K G H0 W env σ H) (q:f env=↑(d,env')) (k:P W env d env'):DP K G H0 f P σ H
def tD(K:e5)(G:Gd)(H0:Hp)(f:FE):TE:=λσ H Q=>DP K G H0 f (λW env d env' =>
 ∀W' v H',Step W H W' H'->Ok K G H0 W' env' σ H'->aQ K H' (Ow G W') d v->Q v H') σ H
def kQ(K:e5)(G:Gd)(H0:Hp)(f:FT):TT:=λσ H Q=>DP K G H0 f (λW env b env' =>
 ∀W' H',Step W H W' H'->Ok K G H0 W' env' σ H'->Q b H') σ H
def iF(K:e5)(G:Gd)(H0:Hp)(f:FA):TA:=λσ H Q=>DP K G H0 f (λW env ds env' =>
 ∀W' vs H',Step W H W' H'->Ok K G H0 W' env' σ H'->aF K H' (Ow G W') ds vs->Q vs H') σ H
def gD(K:e5)(G:Gd)(H0:Hp)(f:FA):TE:=λσ H Q=>DP K G H0 f (λW env ds env' =>
 ∀W' l vs H',Step W H (b_ W' l) H'->Ok K G H0 W' env' σ H'->Ok K G H0 (b_ W' l) env' σ H'->¬W' l->H' l=↑(.lst vs)->aF K H' (Ow G (b_ W' l)) ds vs->Q (.ref l) H') σ H
structure aN (X:Cx) (G:Gd) (H0:Hp) (e:Expr) (f:FE):Prop where
 out:PE X e (tD X.K G H0 f)
structure eR (X:Cx) (G:Gd) (H0:Hp) (e:Expr) (f:FT):Prop where
 out:PT X e (kQ X.K G H0 f)
structure d_ (X:Cx) (G:Gd) (H0:Hp) (es:er) (f:FA):Prop where
 out:PA X es (iF X.K G H0 f)
structure fX (X:Cx) (G:Gd) (H0:Hp) (e:Expr) (f:FA):Prop where
 out:PE X e (gD X.K G H0 f)
variable{e:Expr}{t:TE}{t':TT}
def PE.imp{t':TE}(h:PE X e t)(i:∀σ H Q,t' σ H Q->t σ H Q):PE X e t':=λpins s σ H Q I q=>h pins s σ H Q I (i σ H Q q)
def PT.imp{t:TT}(h:PT X e t)(i:∀σ H Q,t' σ H Q->t σ H Q):PT X e t':=λpins s σ H Q I q=>h pins s σ H Q I (i σ H Q q)
def PA.imp{e:er}{t t':TA}(h:PA X e t)(i:∀σ H Q,t' σ H Q->t σ H Q):PA X e t':=λpos pins s σ H Q I q=>h pos pins s σ H Q I (i σ H Q q)
@[simp] def aB(i:Nat):FE:=λe=>match e[i]? with
 |some ⇑d=>↑(d,e) |some ↑(.ow ds)=>↑(.lst ds,e.set i ⇑(.lst ds))
 |some ↑(.o2 dss)=>↑(.lst (dss.map D.lst),e.set i ⇑(.lst (dss.map D.lst)))
 |_=>none
@[simp] def fC(d:D):FE:=λe=>↑(d,e)
@[simp] def aD(op:D->D->fk)(f g:FE):FE:=λe=>(f e).bind λr=>(g r.2).bind λq=>(op r.1 q.1).map λd=>(d,q.2)
@[simp] def yH(op:D->fk)(f:FE):FE:=λe=>(f e).bind λr=>(op r.1).map λd=>(d,r.2)
@[simp] def eT(f g:FT):FT:=λe=>(f e).bind λr=>if r.1=true then g r.2 else ↑(false,r.2)
@[simp] def fP(f g:FT):FT:=λe=>(f e).bind λr=>if r.1=true then ↑(true,r.2) else g r.2
@[simp] def dM(f:FT):FT:=λe=>(f e).map λr=>(!r.1,r.2)
@[simp] def aI(f:FE):FT:=λe=>(f e).bind λr=>match r.1 with | .bl b=>↑(b,r.2) |_=>none
@[simp] def u6(f g:FE):FE:=λe=>(f e).bind λr=>match r.1 with | .bl true=>g r.2 | .bl false=>↑(.bl false,r.2) |_=>none
@[simp] def yo(f:FE):FE:=λe=>(f e).bind λr=>match r.1 with | .bl b=>↑(.bl (!b),r.2) |_=>none
@[simp] def aC:FA:=λe=>↑([],e)
@[simp] def bx(f:FE)(g:FA):FA:=λe=>(f e).bind λr=>(g r.2).bind λq=>↑(r.1::q.1,q.2)
@[simp] def bR(g:FA):FE:=λe=>(g e).bind λr=>if r.1.length<=64 then ↑(.tup r.1,r.2) else none
@[simp] def fy(g:FA):FA:=λe=>(g e).bind λr=>if r.1.length<=64 then ↑(r.1,r.2) else none
@[simp] def aH(g:FA):FE:=λe=>(g e).map λr=>(.lst r.1,r.2)
@[simp] def gx:D->D->fk | .int i,.int j=>↑↥(i+j) |_,_=>none
@[simp] def bS:D->D->fk | .int i,.int j=>↑↥(i-j) |_,_=>none
def m4(i:Int):Prop:=-(2 ^ 64)<i/\i<2 ^ 64
noncomputable instance (i:Int):Decidable (m4 i):=Classical.propDecidable _
def cE(n:Nat):Prop:=n<=2 ^ 20
noncomputable instance (n:Nat):Decidable (cE n):=Classical.propDecidable _
def jC(lo hi i:Int):Prop:=lo<=i/\i<hi
noncomputable instance (lo hi i:Int):Decidable (jC lo hi i):=Classical.propDecidable _
def cQ:D->D->fk | .int i,.int j=>if m4 i\/m4 j then ↑↥(i*j) else none |_,_=>none
def bH:D->D->fk | .int i,.int j=>if 0<j then ↑↥(i % j) else none |_,_=>none
def cV:D->D->fk | .int i,.int j=>if jC 1 1073741824 j then ↑↥(i / j) else none |_,_=>none
@[simp] def m3:D->fk | .int i=>↑↥(-i) |_=>none
@[simp] def g_:D->D->fk | .int i,.int j=>↑(.bl (decide (i<j))) |_,_=>none
@[simp] def eB:D->D->fk | .int i,.int j=>↑(.bl (decide (j<i))) |_,_=>none
@[simp] def jX:D->D->fk | .int i,.int j=>↑(.bl (decide (j<=i))) |_,_=>none
@[simp] def eU:D->D->fk
 | .int i,.int j=>↑(.bl (decide (i=j))) | .str i,.str j=>↑(.bl (decide (i=j))) | .bl i,.bl j=>↑(.bl (decide (i=j))) |_,_=>none
@[simp] def iG:D->D->fk
 | .int i,.int j=>↑(.bl (!decide (i=j))) | .str i,.str j=>↑(.bl (!decide (i=j))) | .bl i,.bl j=>↑(.bl (!decide (i=j))) |_,_=>none
@[simp] def dV:D->D->fk | .tup ds,.int i=>bZ ds i | .lst ds,.int i=>bZ ds i |_,_=>none
def eE(X:Cx)(G:Gd)(H0:Hp)(r:R2)(op:D->D->fk):Prop :=
 ∀W env σ H x y d1 d2 d (Q:VK),Ok X.K G H0 W env σ H->aQ X.K H (Ow G W) d1 x->aQ X.K H (Ow G W) d2 y->op d1 d2=↑d ->
  (∀v H',Step W H W H'->Ok X.K G H0 W env σ H'->aQ X.K H' (Ow G W) d v->Q v H')->r x y H Q
variable{g:FE}{op:D->D->fk}
def yn(V:eE X G H0 r op):∀σ H Q,tD X.K G H0 (aD op f g) σ H Q->kO r (tD X.K G H0 f) (tD X.K G H0 g) σ H Q:=by
 rintro σ H Q ⟨W,env,d,env',ok,e,k⟩;cases e1:f env with
 |none=>simp[e1] at e |some r1 =>
   cases e2:g r1.2 with
   |none=>simp[e1,e2] at e |some r2 =>
     have e:(op r1.1 r2.1).map (λd=>(d,r2.2))=↑(d,env'):=by simpa[aD,e1,e2] using e
     cases e3:op r1.1 r2.1 with
     |none=>rw[e3] at e;cases e
     |some d' =>
       rw[e3] at e;have Y:(d',r2.2)=(d,env'):=bg e;cases Y;refine⟨W,env,r1.1,r1.2,ok,e1,λW1 a H1 b D p1=>⟨W1,r1.2,r2.1,r2.2,D,e2,λU c H2 s2 I p2=>?_⟩⟩;exact V U _ σ H2 a c _ _ _ Q I (D.rep s2 p1) p2 e3 λv h i S j=>k U v h ((b.trans s2).trans i) S j
variable{a:Expr}{p:D->D->fk}
def tz{op:Operator}(D:eN X (binaryOp op) r)(hd:eE X G H0 r p)(I:aN X G H0 a f)(S:aN X G H0 b g):aN X G H0 (.BinOp a op b pos) (aD p f g) :=
 ⟨(p3 D I.out S.out).imp (yn hd)⟩
def yI(D:gR X r)(hd:eE X G H0 r p)(I:aN X G H0 a f)(S:aN X G H0 b g)(U:uc b):aN X G H0 (.Subscript a b pos) (aD p f g) :=
 ⟨(yp D I.out S.out U).imp (yn hd)⟩
def qL(h:∀σ H Q,tD X.K G H0 f σ H Q->t σ H Q):∀σ H Q,kQ X.K G H0 (aI f) σ H Q->pF t σ H Q:=by
 rintro σ H Q ⟨W,env,b,env',ok,e,k⟩;refine h σ H _ ?_;cases e1:f env with
 |none=>simp[e1] at e |some r1 =>
   obtain⟨d,env1⟩:=r1;cases d with
   |bl b' =>
     have e:↑(b',env1)=↑(b,env'):=by simpa[aI,e1] using e
     cases e;exact⟨W,env,_,_,ok,e1,λW1 S H1 I D p1=>⟨_,p1.bl_,k W1 H1 I D⟩⟩
   |_=>simp[e1] at e
def qv{op:CmpOp}(D:eN X (compareOp op) r)(hd:eE X G H0 r p)(I:aN X G H0 a f)(S:aN X G H0 b g)(U:behindInMarks op b=false):eR X G H0 (.Compare a [op] [b] pos) (aI (aD p f g)) :=
 ⟨(wN D I.out S.out U).imp (qL (yn hd))⟩
variable{g:Int->Int->Int}
def iQ{C:Int->Int->Prop}(h:∀D I d,op D I=↑d->∃i j,D=.int i/\I=.int j/\C i j/\d=.int (g i j)):eE X G H0 (rI C λi j=>.int (g i j)) op:=by
 intro W env σ H x y D I d Q ok p1 p2 e k;obtain⟨i,j,rfl,rfl,S,rfl⟩:=h _ _ _ e;exact⟨i,j,p1.int_,p2.int_,S,k _ H Step.refl ok ↥_⟩
def qM(h:∀D I d,op D I=↑d->∃i j,D=.int i/\I=.int j/\d=.int (g i j)):eE X G H0 (fU λi j=>.int (g i j)) op:=by
 intro W env σ H x y D I d Q ok p1 p2 e k;obtain⟨i,j,rfl,rfl,rfl⟩:=h _ _ _ e;exact⟨i,j,p1.int_,p2.int_,k _ H Step.refl ok ↥_⟩
variable{g:FE}
def ym{g:Int->Int->Bool}(h:∀D I d,op D I=↑d->∃i j,D=.int i/\I=.int j/\d=.bl (g i j)):eE X G H0 (fU λi j=>.bl (g i j)) op:=by
 intro W env σ H x y D I d Q ok p1 p2 e k;obtain⟨i,j,rfl,rfl,rfl⟩:=h _ _ _ e;exact⟨i,j,p1.int_,p2.int_,k _ H Step.refl ok (.bl _)⟩
def yJ:eE X G H0 (fU λi j=>.int (i+j)) gx:=qM λD I d e=>by
 cases D <;> try (cases e;done)
 all_goals cases I <;> first | (cases e;done) |exact⟨_,_,rfl,rfl,(bg e).symm⟩
def yK:eE X G H0 (fU λi j=>.int (i-j)) bS:=qM λD I d e=>by
 cases D <;> try (cases e;done)
 all_goals cases I <;> first | (cases e;done) |exact⟨_,_,rfl,rfl,(bg e).symm⟩
def yL:eE X G H0 (rI gY λi j=>.int (i*j)) cQ:=iQ λD I d e=>by
 cases D <;> try (cases e;done)
 all_goals cases I <;> first
  | (cases e;done)
  | (rename_i i j
     by_cases h:m4 i\/m4 j
     ·simp only[cQ,am h] at e;exact⟨_,_,rfl,rfl,h,(bg e).symm⟩
     ·simp only[cQ,b3 h] at e;cases e)
def yM:eE X G H0 (rI (λ_ j=>0<j) λi j=>.int (i % j)) bH:=iQ λD I d e=>by
 cases D <;> try (cases e;done)
 all_goals cases I <;> first
  | (cases e;done)
  | (rename_i i j
     by_cases h:0<j
     ·simp only[bH,am h] at e;exact⟨_,_,rfl,rfl,h,(bg e).symm⟩
     ·simp only[bH,b3 h] at e;cases e)
theorem yN:eE X G H0 (rI jP λi j=>.int (i / j)) cV:=iQ λD I d e=>by
 cases D <;> try (cases e;done)
 all_goals cases I <;> first
  | (cases e;done)
  | (rename_i i j
     by_cases h:jC 1 1073741824 j
     ·simp only[cV,am h] at e;exact⟨_,_,rfl,rfl,⟨by have:=h.1;lia,h.2⟩,(bg e).symm⟩
     ·simp only[cV,b3 h] at e;cases e)
def yO:eE X G H0 (fU λi j=>.bl (decide (i<j))) g_:=ym λD I d e=>by
 cases D <;> try (cases e;done)
 all_goals cases I <;> first | (cases e;done) |exact⟨_,_,rfl,rfl,(bg e).symm⟩
def yP:eE X G H0 (fU λi j=>.bl (decide (j<i))) eB:=ym λD I d e=>by
 cases D <;> try (cases e;done)
 all_goals cases I <;> first | (cases e;done) |exact⟨_,_,rfl,rfl,(bg e).symm⟩
def yQ:eE X G H0 (fU λi j=>.bl (decide (j<=i))) jX:=ym λD I d e=>by
 cases D <;> try (cases e;done)
 all_goals cases I <;> first | (cases e;done) |exact⟨_,_,rfl,rfl,(bg e).symm⟩
def qN(i j:Int):decide (V.int i=V.int j)=decide (i=j):=by simp
def qO(i j:Str):decide (V.str i=V.str j)=decide (i=j):=by simp
def qP(i j:Bool):decide (V.bl i=V.bl j)=decide (i=j):=by simp
def yR:eE X G H0 p4 eU:=by
 intro W env σ H x y D I d Q ok p1 p2 e k;cases D <;> try (cases e;done)
 all_goals cases I <;> first
  | (cases e;done)
  | (cases p1.int_;cases p2.int_;cases e;refine⟨rfl,?_⟩;rw[qN];exact k _ H Step.refl ok (.bl _))
  | (cases p1.str_;cases p2.str_;cases e;refine⟨rfl,?_⟩;rw[qO];exact k _ H Step.refl ok (.bl _))
  | (cases p1.bl_;cases p2.bl_;cases e;refine⟨rfl,?_⟩;rw[qP];exact k _ H Step.refl ok (.bl _))
def yS:eE X G H0 p5 iG:=by
 intro W env σ H x y D I d Q ok p1 p2 e k;cases D <;> try (cases e;done)
 all_goals cases I <;> first
  | (cases e;done)
  | (cases p1.int_;cases p2.int_;cases e;refine⟨rfl,?_⟩;rw[qN];exact k _ H Step.refl ok (.bl _))
  | (cases p1.str_;cases p2.str_;cases e;refine⟨rfl,?_⟩;rw[qO];exact k _ H Step.refl ok (.bl _))
  | (cases p1.bl_;cases p2.bl_;cases e;refine⟨rfl,?_⟩;rw[qP];exact k _ H Step.refl ok (.bl _))
def rc{i:Int}(r:aF K H O ds vs)(h:bZ ds i=↑d):∃v,bZ vs i=↑v/\aQ K H O d v:=by
 unfold bZ at h ⊢;rw[<-r.length];cases q:eQ ds.length i with
 |none=>rw[q] at h;cases h
 |some j=>rw[q] at h;exact r.get h
def yT:eE X G H0 (pY X.K) dV:=by
 intro W env σ H x y S U d Q ok p1 p2 e k;cases S <;> first
  | (cases e;done)
  | (cases U <;> first
      | (cases e;done)
      | (cases p2
         first
          | (obtain⟨a, vs, rfl, h, r⟩ := p1.tup_
             obtain⟨v,D,I⟩:=rc r e;exact .inr (.inl ⟨a,vs,_,v,rfl,rfl,dA.of h,D,k _ H Step.refl ok I⟩))
          | (obtain⟨a, vs, rfl, h, r⟩ := p1.lst_
             obtain⟨v,D,I⟩:=rc r e;exact .inl ⟨a,vs,_,v,rfl,rfl,h.sq,D,k _ H Step.refl ok I⟩)))
def lc(D:aN X G H0 a f)(I:aN X G H0 b g):aN X G H0 (.BinOp a .Add b pos) (aD gx f g):=tz wA yJ D I
def ph(D:aN X G H0 a f)(I:aN X G H0 b g):aN X G H0 (.BinOp a .Sub b pos) (aD bS f g):=tz wB yK D I
def y9(D:aN X G H0 a f)(I:aN X G H0 b g):aN X G H0 (.BinOp a .Mult b pos) (aD cQ f g):=tz wC yL D I
def pd(D:aN X G H0 a f)(I:aN X G H0 b g):aN X G H0 (.BinOp a .Mod b pos) (aD bH f g):=tz wF yM D I
def y8(D:aN X G H0 a f)(I:aN X G H0 b g):aN X G H0 (.BinOp a .FloorDiv b pos) (aD cV f g):=tz wE yN D I
def ql(D:aN X G H0 a f)(I:aN X G H0 b g):eR X G H0 (.Compare a [.Lt] [b] pos) (aI (aD g_ f g)):=qv wK yO D I (qr _)
def ny(D:aN X G H0 a f)(I:aN X G H0 b g):eR X G H0 (.Compare a [.Gt] [b] pos) (aI (aD eB f g)):=qv wL yP D I (qr _)
def qQ(D:aN X G H0 a f)(I:aN X G H0 b g):eR X G H0 (.Compare a [.GtE] [b] pos) (aI (aD jX f g)):=qv wM yQ D I (qr _)
def qk(D:aN X G H0 a f)(I:aN X G H0 b g):eR X G H0 (.Compare a [.Eq] [b] pos) (aI (aD eU f g)):=qv wI yR D I (qr _)
def tu(D:aN X G H0 a f)(I:aN X G H0 b g):eR X G H0 (.Compare a [.NotEq] [b] pos) (aI (aD iG f g)):=qv wJ yS D I (qr _)
def yl(D:aN X G H0 a f)(I:aN X G H0 b g)(S:uc b:=by intro _ _;rfl):aN X G H0 (.Subscript a b pos) (aD dV f g):=yI pZ yT D I S
variable{Nn Cn:d3}
def cf(an:bI Nn Cn X)(S:‹Nn[i]?=↑x›):aN X G H0 (.Name x pos) (aB i):=⟨((an.a S).pe).imp λσ H Q U=>by
 obtain⟨W,env,d,env',ok,e,k⟩:=U;unfold aB at e;cases q:env[i]? with
 |none=>rw[q] at e;cases e
 |some o =>
   cases o with
   |none=>rw[q] at e;cases e
   |some sl =>
     cases sl with
     |sh d' =>
       rw[q] at e;cases e;obtain⟨v,I,r⟩:=ok.slot i _ q;exact⟨v,I,k W v H Step.refl ok r⟩
     |ow ds =>
       rw[q] at e;cases e;obtain⟨W',v,I,st,D,r⟩:=ok.share q;exact⟨v,I,k W' v H st D r⟩
     |o2 dss =>
       rw[q] at e;cases e;obtain⟨W',v,I,st,D,r⟩:=ok.share2 q;exact⟨v,I,k W' v H st D r⟩
     |ag _ _ _=>rw[q] at e;cases e
     |al _ _=>rw[q] at e;cases e
     |ro _ _=>rw[q] at e;cases e⟩
def h8(h:PE X e (tC v))(r:∀H O,aQ X.K H O d v):aN X G H0 e (fC d):=⟨h.imp λσ H Q D=>by
 obtain⟨W,env,d',env',ok,q,k⟩:=D;cases q;exact k W v H Step.refl ok (r _ _)⟩
def ez{i:Int}:aN X G H0 (.Constant ↥i j pos) (fC ↥i):=h8 oX λ_ _=>.int _
def kz{i:Bool}:aN X G H0 (.Constant (.bool i) j pos) (fC (.bl i)):=h8 u_ λ_ _=>.bl _
def jk{i:Str}:aN X G H0 (.Constant (.str i) j pos) (fC (.str i)):=h8 oY λ_ _=>.str _
structure iR (X:Cx) (G:Gd) (H0:Hp) (e:Expr) (f:FT):Prop where
 out:PW X e (kQ X.K G H0 f)
variable{t:TI}
def PW.imp{t:TT}(h:PW X e t)(i:∀σ H Q,t' σ H Q->t σ H Q):PW X e t':=λw pins s σ H Q I q=>h w pins s σ H Q I (i σ H Q q)
variable{p:FT}
def dQ(h:iR X G H0 e p):eR X G H0 e p:=⟨PW.pt h.out⟩
def zr(h:eR X G H0 a p):iR X G H0 (.BoolOp .And [a] pos) p:=⟨vr h.out⟩
def og(h:eR X G H0 a p):iR X G H0 (.BoolOp .Or [a] pos) p:=⟨vu h.out⟩
variable{rest:er}
def y7(h:eR X G H0 a p)(h2:iR X G H0 (.BoolOp .And (b::rest) pos) q):iR X G H0 (.BoolOp .And (a::b::rest) pos) (eT p q):=⟨(vx h.out h2.out).imp λσ H Q U=>by
 obtain⟨W,env,d,env',ok,e,k⟩:=U;cases e1:p env with
 |none=>simp[e1] at e |some r =>
   obtain⟨t,env1⟩:=r;refine⟨W,env,t,env1,ok,e1,λW1 H1 S D=>?_⟩;cases t with
   |true =>
     exact⟨W1,env1,d,env',D,by simpa[eT,e1] using e,λV H2 s2 I=>k V H2 (S.trans s2) I⟩
   |false =>
     have e:↑(false,env1)=↑(d,env'):=by simpa[eT,e1] using e
     cases e;exact k W1 H1 S D⟩
def nv(h:eR X G H0 a p)(h2:iR X G H0 (.BoolOp .Or (b::rest) pos) q):iR X G H0 (.BoolOp .Or (a::b::rest) pos) (fP p q):=⟨(v3 h.out h2.out).imp λσ H Q U=>by
 obtain⟨W,env,d,env',ok,e,k⟩:=U;cases e1:p env with
 |none=>simp[e1] at e |some r =>
   obtain⟨t,env1⟩:=r;refine⟨W,env,t,env1,ok,e1,λW1 H1 S D=>?_⟩;cases t with
   |false =>
     exact⟨W1,env1,d,env',D,by simpa[fP,e1] using e,λV H2 s2 I=>k V H2 (S.trans s2) I⟩
   |true =>
     have e:↑(true,env1)=↑(d,env'):=by simpa[fP,e1] using e
     cases e;exact k W1 H1 S D⟩
def oa(h:eR X G H0 a p):eR X G H0 (.UnaryOp .Not a pos) (dM p):=⟨(v4 h.out).imp λσ H Q I=>by
 obtain⟨W,env,d,env',ok,e,k⟩:=I;cases e1:p env with
 |none=>simp[e1] at e |some r =>
   have e:↑(!r.1,r.2)=↑(d,env'):=by simpa[dM,e1] using e
   cases e;exact⟨W,env,_,_,ok,e1,λW1 H1 S D=>k W1 H1 S D⟩⟩
def l8(h:aN X G H0 a f)(I:∀D,isTrue a X.env D=(do let v <-D;standAt a.pos;holding [v] (truthy v)):=by intro _;rfl):eR X G H0 a (aI f):=⟨(vc h.out I).imp (qL λ_ _ _ z=>z)⟩
variable{op:fh->fk}
def yU{op:BoolOp}(h:aN X G H0 a f):aN X G H0 (.BoolOp op [a] pos) f:=⟨vB h.out⟩
def yV(h:aN X G H0 a f)(h2:aN X G H0 (.BoolOp .And (b::rest) pos) g):aN X G H0 (.BoolOp .And (a::b::rest) pos) (u6 f g):=⟨(vC h.out h2.out).imp λσ H Q V=>by
 obtain⟨W,env,d,env',ok,e,k⟩:=V;cases e1:f env with
 |none=>simp[e1] at e |some r =>
   obtain⟨t,env1⟩:=r;refine⟨W,env,t,env1,ok,e1,λW1 i H1 U I p1=>?_⟩;cases t with
   |bl t =>
     refine⟨t,p1.bl_,?_⟩;cases t with
     |true =>
       exact⟨W1,env1,d,env',I,by simpa[u6,e1] using e,λY c H2 s2 S p2=>k Y c H2 (U.trans s2) S p2⟩
     |false =>
       have e:↑(D.bl false,env1)=↑(d,env'):=by simpa[u6,e1] using e
       cases e;exact k W1 _ H1 U I (.bl _)
   |_=>simp[e1] at e⟩
def yW(h:aN X G H0 a f):aN X G H0 (.UnaryOp .Not a pos) (yo f):=⟨(vD h.out).imp λσ H Q S=>by
 obtain⟨W,env,d,env',ok,e,k⟩:=S;cases e1:f env with
 |none=>simp[e1] at e |some r =>
   obtain⟨t,env1⟩:=r;refine⟨W,env,t,env1,ok,e1,λW1 V H1 U I p1=>?_⟩;cases t with
   |bl t =>
     have e:↑(D.bl (!t),env1)=↑(d,env'):=by simpa[yo,e1] using e
     cases e;exact⟨t,p1.bl_,k W1 _ H1 U I (.bl _)⟩
   |_=>simp[e1] at e⟩
def du  : d_ X G H0 [] aC:=⟨lx.imp λσ H Q D=>by
 obtain⟨W,env,ds,env',ok,e,k⟩:=D;cases e;exact k W [] H Step.refl ok .nil⟩
variable{F:FA}
def cy(S:aN X G H0 e f)(U:d_ X G H0 es F)(V:‹starEach (e::es) X.env=(false,eval e X.env)::starEach es X.env›):d_ X G H0 (e::es) (bx f F):=⟨(j6 S.out U.out V).imp λσ H Q Y=>by
 obtain⟨W,env,ds,env',ok,q,k⟩:=Y;cases e1:f env with
 |none=>simp[e1] at q |some r =>
   obtain⟨d,env1⟩:=r;cases e2:F env1 with
   |none=>simp[e1,e2] at q |some r2 =>
     have q:↑(d::r2.1,r2.2)=↑(ds,env'):=by simpa[bx,e1,e2] using q
     cases q;exact⟨W,env,d,env1,ok,e1,λW1 c H1 a D p1=>⟨W1,env1,_,_,D,e2,λb vs H2 s2 I p2=>k b _ H2 (a.trans s2) I (.cons (D.rep s2 p1) p2)⟩⟩⟩
def jY(h:n<=64):n<=sizeLine:=b5 h (by rw[fb];decide)
def m8{k1}(h:d_ X G H0 es F):aN X G H0 (.Tuple es k1 pos) (bR F):=⟨(pM h.out).imp λσ H Q V=>by
 obtain⟨W,env,d,env',ok,q,k⟩:=V;cases e1:F env with
 |none=>simp[e1] at q |some r =>
   obtain⟨ds,env1⟩:=r;by_cases S:ds.length<=64
   ·have q:↑(D.tup ds,env1)=↑(d,env'):=by simpa[bR,e1,S] using q
    cases q;refine⟨W,env,ds,_,ok,e1,λW1 vs H1 Y I p1=>⟨by rw[<-p1.length];exact jY S,λl a=>?_⟩⟩;have U:aU H1 (aR H1 l (.tup vs)):=we a;have st:Step W1 H1 W1 (aR H1 l (.tup vs)):=Step.same U;exact k W1 _ _ (Y.trans st) (I.same U) (.tup j9 (I.reps st p1))
   ·simp[e1,S] at q⟩
def qu(ok:Ok X.K G H0 W env σ H)(r:aF X.K H (Ow G W) ds vs)(I:H l=none) :
  Step W H (b_ W l) (aR H l (.lst vs))/\Ok X.K G H0 W env σ (aR H l (.lst vs))/\Ok X.K G H0 (b_ W l) env σ (aR H l (.lst vs))/\¬W l/\aR H l (.lst vs) l=↑(.lst vs)/\aF X.K (aR H l (.lst vs)) (Ow G (b_ W l)) ds vs:=by
 have D:aU H (aR H l (.lst vs)):=we I;obtain⟨h1,h2,S,U,V⟩:=ok.fresh (l:=l) (vs:=vs) (ds:=ds) D I j9 ((r.mono (O':=λa=>(Ow G W a\/H a=none)/\a≠l) (λ_ _ h=>D _ _ h) λa us o h=>⟨⟨.inl o,λz=>by
  subst z;have h2:Rd H a (.lst us):=h;rcases h2 with h2 | ⟨_,h2⟩ <;> rw[I] at h2 <;> cases h2⟩,h.keep λo e=>D _ o e⟩))
 exact⟨V,ok.same D,S,h1,j9,U⟩
def jb(h:d_ X G H0 es F):fX X G H0 (.List es pos) (fy F):=⟨(xa h.out).imp λσ H Q S=>by
 obtain⟨W,env,d,env',ok,q,k⟩:=S;cases e1:F env with
 |none=>simp[e1] at q |some r =>
   obtain⟨ds,env1⟩:=r;by_cases D:ds.length<=64
   ·have q:↑(ds,env1)=↑(d,env'):=by simpa[fy,e1,D] using q
    cases q;refine⟨W,env,_,_,ok,e1,λW1 vs H1 U I p1=>⟨by rw[<-p1.length];exact jY D,λl V=>?_⟩⟩;obtain⟨h1,h2,Y,a,b,c⟩:=qu I p1 V;exact k W1 l vs _ (U.trans h1) h2 Y a b c
   ·simp[e1,D] at q⟩
def f7(h:fX X G H0 e F):aN X G H0 e (aH F):=⟨h.out.imp λσ H Q V=>by
 obtain⟨W,env,d,env',ok,q,k⟩:=V;cases e1:F env with
 |none=>simp[e1] at q |some r =>
   have q:↑(D.lst r.1,r.2)=↑(d,env'):=by simpa[aH,e1] using q
   cases q;refine⟨W,env,_,_,ok,e1,λW1 l vs H1 U I S Y b c=>k W1 _ H1 ⟨U.keep,λa z=>U.ws a (.inl z)⟩ I (.lst ⟨I.good l (S.wl l (.inr rfl)).1,Y⟩ (.inl b) (c.mono (λ_ _ h=>h) λa us o h=>⟨⟨o.1,λz=>o.2 (.inl z)⟩,h⟩))⟩⟩
def bV(P:Program)(w:World)(K:e5)(mg:Str->eb)(base:Heap)(CX:fN)(x:Str)(k:Nat)(sp:Sp):Prop :=
 ∃D fd ps,bD P w K mg base CX k D fd ps sp/\mg x=↑(.ref D)/\PySem.W.keepIn K (.ref D)=true/\Binds K fd ps []/\(x==("__debug__" : Str))=false
def dB(K:e5)(m:fh->fk):Sp:=λvs H Q _=>∃O ds d,aF K H O ds vs/\m ds=↑d/\∀v H',aU H H'->aQ K H' (λa=>O a\/H a=none) d v->Q v H'
def jD(K:e5)(m:fh->Option fh):Sp:=λvs H Q _=>∃O ds I,aF K H O ds vs/\m ds=↑I/\∀l us H',aU H H'->H l=none->H' l=↑(.lst us)->aF K H' (λa=>(O a\/H a=none)/\a≠l) I us->Q (.ref l) H'
@[simp] def f8(m:fh->fk)(F:FA):FE:=λe=>(F e).bind λr=>(m r.1).map λd=>(d,r.2)
@[simp] def gm(m:fh->Option fh)(F:FA):FA:=λe=>(F e).bind λr=>(m r.1).map λd=>(d,r.2)
variable{m:fh->fk}{E:XK}
def yX:∀σ H Q,tD X.K G H0 (f8 m F) σ H Q->yt (dB X.K m) [] E (iF X.K G H0 F) σ H Q:=λσ H Q S=>by
 obtain⟨W,env,d,env',ok,q,k⟩:=S;cases e1:F env with
 |none=>simp[e1] at q |some r =>
   obtain⟨ds,env1⟩:=r;cases e2:m ds with
   |none=>simp[e1,e2] at q |some d' =>
     have q:↑(d',env1)=↑(d,env'):=by simpa[f8,e1,e2] using q
     cases q;refine⟨W,env,ds,_,ok,e1,λW1 vs H1 U D p1=>?_⟩;show dB X.K m (vs++[]) H1 Q E;rw[cr];refine⟨Ow G W1,ds,_,p1,e2,λv H2 I V=>?_⟩;refine k W1 v H2 (U.trans (Step.same I)) (D.same I) (V.mono (λ_ _ h=>h) λa us o h=>⟨?_,h⟩);rcases o with o |o
     ·exact o
     ·exact⟨D.good a (D.stay.free o),λz=>by obtain⟨_,us,q⟩:=D.wl a z;rw[o] at q;cases q⟩
def yY{m:fh->Option fh}:∀σ H Q,gD X.K G H0 (gm m F) σ H Q->yt (jD X.K m) [] E (iF X.K G H0 F) σ H Q:=λσ H Q V=>by
 obtain⟨W,env,d,env',ok,q,k⟩:=V;cases e1:F env with
 |none=>simp[e1] at q |some r =>
   obtain⟨ds,env1⟩:=r;cases e2:m ds with
   |none=>simp[e1,e2] at q |some d' =>
     have q:↑(d',env1)=↑(d,env'):=by simpa[gm,e1,e2] using q
     cases q;refine⟨W,env,ds,_,ok,e1,λW1 vs H1 Y I p1=>?_⟩;show jD X.K m (vs++[]) H1 Q E;rw[cr];refine⟨Ow G W1,ds,_,p1,e2,λl us H2 S a U b=>?_⟩;obtain⟨h1,h2,c,e,f⟩:=I.fresh S a U b;exact k W1 l us H2 (Y.trans f) (I.same S) c h1 U e
variable{jr:Nat}{p':Pos}
def j1(c:bV X.prog X.w X.K X.mg X.base bO x k (dB X.K m))(S:aP jr X.A)(U:d_ X G H0 (e::es) F)(hkj:k<=jr:=by decide)(V:Gl X x:=by walk_at "g")(Y:‹starEach (e::es) X.env=(false,eval e X.env)::starEach es X.env›)(D:‹(backTo pos (starEach es X.env)).any (·.1)=false›) :
  aN X G H0 (.Call (.Name x p') (e::es) [] pos) (f8 m F):=let ⟨_,_,_,a,b,d,f,I⟩:=c;⟨(pN a (S.mono hkj) V b d f .nil qD U.out I Y D).imp yX⟩
variable{mF:fh->Option fh}
def yZ(c:bV X.prog X.w X.K X.mg X.base bO x k (jD X.K mF))(S:aP jr X.A)(U:d_ X G H0 (e::es) F)(hkj:k<=jr:=by decide)(V:Gl X x:=by walk_at "g")(Y:‹starEach (e::es) X.env=(false,eval e X.env)::starEach es X.env›)(D:‹(backTo pos (starEach es X.env)).any (·.1)=false›) :
  fX X G H0 (.Call (.Name x p') (e::es) [] pos) (gm mF F):=let ⟨_,_,_,a,b,d,f,I⟩:=c;⟨(pN a (S.mono hkj) V b d f .nil qD U.out I Y D).imp yY⟩
def pw(X:Cx)(G:Gd)(H0:Hp)(r:fe->Hp->VK->Prop)(op:fh->fk):Prop :=
 ∀W env σ H vs ds d (Q:VK),Ok X.K G H0 W env σ H->aF X.K H (Ow G W) ds vs->op ds=↑d ->
  (∀v H',Step W H W H'->Ok X.K G H0 W env σ H'->aQ X.K H' (Ow G W) d v->Q v H')->r vs H Q
def y0(X:Cx)(G:Gd)(H0:Hp)(r:fe->Hp->VK->Prop)(op:fh->Option fh):Prop :=
 ∀W env σ H vs ds rs (Q:VK),Ok X.K G H0 W env σ H->aF X.K H (Ow G W) ds vs->op ds=↑rs ->
  (∀l us H',Step W H (b_ W l) H'->Ok X.K G H0 W env σ H'->Ok X.K G H0 (b_ W l) env σ H'->¬W l->H' l=↑(.lst us)->aF X.K H' (Ow G (b_ W l)) rs us->Q (.ref l) H')->r vs H Q
variable{r:fe->Hp->VK->Prop}
def qR(hd:pw X G H0 r op):∀σ H Q,tD X.K G H0 (f8 op F) σ H Q->kP r (iF X.K G H0 F) σ H Q:=λσ H Q S=>by
 obtain⟨W,env,d,env',ok,q,k⟩:=S;cases e1:F env with
 |none=>simp[e1] at q |some z =>
   obtain⟨ds,env1⟩:=z;cases e2:op ds with
   |none=>simp[e1,e2] at q |some d' =>
     have q:↑(d',env1)=↑(d,env'):=by simpa[f8,e1,e2] using q
     cases q;exact⟨W,env,ds,_,ok,e1,λW1 vs H1 U D p1=>hd W1 _ σ H1 vs ds _ Q D p1 e2 λv H2 s2 I p2=>k W1 v H2 (U.trans s2) I p2⟩
def y_{op:fh->Option fh}(hd:y0 X G H0 r op):∀σ H Q,gD X.K G H0 (gm op F) σ H Q->kP r (iF X.K G H0 F) σ H Q:=λσ H Q V=>by
 obtain⟨W,env,d,env',ok,q,k⟩:=V;cases e1:F env with
 |none=>simp[e1] at q |some z =>
   obtain⟨ds,env1⟩:=z;cases e2:op ds with
   |none=>simp[e1,e2] at q |some d' =>
     have q:↑(d',env1)=↑(d,env'):=by simpa[gm,e1,e2] using q
     cases q;exact⟨W,env,ds,_,ok,e1,λW1 vs H1 Y I p1=>hd W1 _ σ H1 vs ds _ Q I p1 e2 λl us H2 s2 S U a b c=>k W1 l us H2 (Y.trans s2) S U a b c⟩
variable{id:String}
def m9(S:l4 X (.builtin id) r)(hd:pw X G H0 r op)(U:Gl X x)(V:X.mg x=none)(Y:bootBuiltins x=↑(.builtin id))(a:d_ X G H0 (e::es) F)(b:x ≠ "__name__":=by decide)(D:(x==("__debug__" : Str))=false:=by decide)(c:‹starEach (e::es) X.env=(false,eval e X.env)::starEach es X.env›)(I:‹(backTo pos (starEach es X.env)).any (·.1)=false›):aN X G H0 (.Call (.Name x p') (e::es) [] pos) (f8 op F):=⟨(rq S U V Y a.out b D c I).imp (qR hd)⟩
variable{T:String}
def zv(S:l4 X (.type T) r)(hd:pw X G H0 r op)(U:Gl X x)(V:X.mg x=none)(Y:bootBuiltins x=↑(.type T))(a:d_ X G H0 (e::es) F)(b:x ≠ "__name__":=by decide)(D:(x==("__debug__" : Str))=false:=by decide)(c:‹starEach (e::es) X.env=(false,eval e X.env)::starEach es X.env›)(I:‹(backTo pos (starEach es X.env)).any (·.1)=false›):aN X G H0 (.Call (.Name x p') (e::es) [] pos) (f8 op F):=⟨(pU S U V Y a.out b D c I).imp (qR hd)⟩
variable{opF:fh->Option fh}
def z4(S:l4 X (.type T) r)(hd:y0 X G H0 r opF)(U:Gl X x)(V:X.mg x=none)(Y:bootBuiltins x=↑(.type T))(a:d_ X G H0 (e::es) F)(b:x ≠ "__name__":=by decide)(D:(x==("__debug__" : Str))=false:=by decide)(c:‹starEach (e::es) X.env=(false,eval e X.env)::starEach es X.env›)(I:‹(backTo pos (starEach es X.env)).any (·.1)=false›):fX X G H0 (.Call (.Name x p') (e::es) [] pos) (gm opF F):=⟨(pU S U V Y a.out b D c I).imp (y_ hd)⟩
def nu(h:aF K H O [d] vs):∃v,vs=[v]/\aQ K H O d v:=by
 cases h with |cons r t=>cases t;exact⟨_,rfl,r⟩
@[simp] def hB:fh->fk | [.tup ds]=>↑↥ds.length | [.lst ds]=>↑↥ds.length |_=>none
def zA:pw X G H0 (λxs H Q=>∃p ys,xs=[.ref p]/\(cK X.K H p ys\/dA X.K H p ys)/\Q ↥ys.length H) hB:=by
 intro W env σ H vs ds d Q ok r e k;unfold hB at e;split at e
 ·rename_i ds
  cases e;obtain⟨v,rfl,D⟩:=nu r;have r:=D;obtain⟨a,us,rfl,h,r⟩:=r.tup_;exact⟨a,us,rfl,.inr (dA.of h),by rw[<-r.length];exact k _ H Step.refl ok ↥_⟩
 ·rename_i ds
  cases e;obtain⟨v,rfl,D⟩:=nu r;have r:=D;obtain⟨a,us,rfl,h,r⟩:=r.lst_;exact⟨a,us,rfl,.inl h.sq,by rw[<-r.length];exact k _ H Step.refl ok ↥_⟩
 ·cases e
def zB(I:d_ X G H0 [e] F)(D:Bn X "len":=by walk_at "b")(S:‹starEach [e] X.env=(false,eval e X.env)::starEach [] X.env›):aN X G H0 (.Call (.Name "len" p') [e] [] pos) (f8 hB F) :=
 m9 qq zA D.g D.m PySem.boot_len I (by decide) (by decide) S rfl
def bE:fh->Option ei
 | []=>↑[] | .int i::r=>(bE r).map (i::·)
 |_::_=>none
def rj:∀ {ds:fh} {ns:ei},bE ds=↑ns->ds=ns.map D.int
 | [],ns,h=>by cases h;rfl
 | .int i::r,ns,h=>by
   unfold bE at h;cases q:bE r with
   |none=>rw[q] at h;cases h
   |some ms=>rw[q] at h;cases h;rw[rj q];rfl
 | .str _::_,_,h=>by cases h
def dG(ns:ei):bE (ns.map D.int)=↑ns:=by
 induction ns with
 |nil=>rfl |cons n r ih=>show(bE (r.map D.int)).map (n::·)=_;rw[ih];rfl
def se{K:e5}{H:Hp}{O:Addr->Prop}:∀ {ns:ei} {vs:fe},aF K H O (ns.map D.int) vs->vs=ns.map V.int
 | [],_,h=>by cases h;rfl
 |n::r,_,h=>by cases h with |cons a t=>rw[se t,a.int_];rfl
def qS(Y:X.calm=true):l4 X (.builtin "sum") (λxs H Q=>∃p,∃ns:ei,xs=[.ref p]/\cK X.K H p (ns.map V.int)/\Q ↥ns.sum H):=by
 intro pins s σ H xs us Q I r h;obtain⟨p,ns,rfl,a,q⟩:=h;obtain⟨u,rfl,b⟩:=qo r;cases b;obtain⟨its,c,pl,f⟩:=I.list a;have hi:IntsAre its ns:=lS c;have S:=pl.isList;obtain⟨xs,D⟩:=hi.allInts.items;rw[D] at S;refine sum_intListG (I.ok.hd Y) S λh' tk t' d=>⟨.int ns.sum,H,I.kept d,⟨t',?_⟩,q⟩;have e:numsOf its=ns:=hi.numsOf;have U:numsOf (intItems xs).toList=ns:=by rw[<-D];exact e
 rw[nums_intItems] at U;rw[preSum_eq,List.take_of_length_le ⋯,U]
def fD:fh->fk | [.lst ds]=>(bE ds).map λns=>.int ns.sum |_=>none
def zC:pw X G H0 (λxs H Q=>∃p,∃ns:ei,xs=[.ref p]/\cK X.K H p (ns.map V.int)/\Q ↥ns.sum H) fD:=by
 intro W env σ H vs ds d Q ok r e k;unfold fD at e;split at e
 ·rename_i ds
  cases q:bE ds with
  |none=>rw[q] at e;cases e
  |some ns =>
    rw[q] at e;cases e;obtain⟨v,rfl,D⟩:=nu r;have r:=D;obtain⟨a,us,rfl,h,r⟩:=r.lst_;rw[rj q] at r;rw[se r] at h;exact⟨a,ns,rfl,h.sq,k _ H Step.refl ok ↥_⟩
 ·cases e
def qT(I:d_ X G H0 [e] F)(S:‹X.calm=true›)(D:Bn X "sum":=by walk_at "b")(U:‹starEach [e] X.env=(false,eval e X.env)::starEach [] X.env›):aN X G H0 (.Call (.Name "sum" p') [e] [] pos) (f8 fD F) :=
 m9 (qS S) zC D.g D.m boot_sum I (by decide) (by decide) U rfl
@[simp] def mh:fh->Option fh | [.lst ds]=>↑ds | [.tup ds]=>↑ds |_=>none
def zD:y0 X G H0 (λxs H Q=>∃p ys,xs=[.ref p]/\(cK X.K H p ys\/dA X.K H p ys)/\∀l,H l=none->Q (.ref l) (aR H l (.lst ys))) mh:=by
 intro W env σ H vs ds b Q ok r e k;unfold mh at e;split at e
 ·cases e
  obtain⟨v,rfl,D⟩:=nu r;have r:=D;obtain⟨a,us,rfl,h,r⟩:=r.lst_;refine⟨a,us,rfl,.inl h.sq,λl I=>?_⟩;obtain⟨h1,h2,S,U,V,Y⟩:=qu ok r I;exact k l us _ h1 h2 S U V Y
 ·cases e
  obtain⟨v,rfl,D⟩:=nu r;have r:=D;obtain⟨a,us,rfl,h,r⟩:=r.tup_;refine⟨a,us,rfl,.inr (dA.of h),λl I=>?_⟩;obtain⟨h1,h2,S,U,V,Y⟩:=qu ok r I;exact k l us _ h1 h2 S U V Y
 ·cases e
def zE:bootBuiltins "list" = ↑(.type "list"):=by decide +kernel
def qU(I:d_ X G H0 [e] F)(D:Bn X "list":=by walk_at "b")(S:‹starEach [e] X.env=(false,eval e X.env)::starEach [] X.env›):fX X G H0 (.Call (.Name "list" p') [e] [] pos) (gm mh F) :=
 z4 xN zD D.g D.m zE I (by decide) (by decide) S rfl
def mB(lo hi:Int):ei:=(List.range (hi-lo).toNat).map λ(k:Nat)=>lo+(k:Int)
def mD{K:e5}{H:Hp}{O:Addr->Prop}:∀(ns:ei),aF K H O (ns.map D.int) (ns.map V.int)
 | []=>.nil |n::r=>.cons ↥n (mD r)
abbrev FO:=DE0->Option (ew×DE0)
def zF(K:e5)(G:Gd)(H0:Hp)(f:FO):TO:=λσ H Q=>DP K G H0 f (λW env o env'=> ∀W' H',Step W H W' H'->Ok K G H0 W' env' σ H'->Q o H') σ H
structure kR (X:Cx) (G:Gd) (H0:Hp) (e:Option Expr) (f:FO):Prop where
 out:PO X e (zF X.K G H0 f)
variable{t':TI}
def PO.imp{e:Option Expr}{t t':TO}(h:PO X e t)(i:∀σ H Q,t' σ H Q->t σ H Q):PO X e t':=λpins s σ H Q I q=>h pins s σ H Q I (i σ H Q q)
@[simp] def hC:FO:=λe=>↑(none,e)
@[simp] def gS(f:FE):FO:=λe=>(f e).bind λr=>match r.1 with | .int i=>↑(↑i,r.2) |_=>none
def vo  : kR X G H0 none hC:=⟨x5.imp λσ H Q ⟨W,env,o,env',ok,q,k⟩=>by cases q;exact k W H Step.refl ok⟩
def vn(h:aN X G H0 e f):kR X G H0 ↑e (gS f):=⟨(xA h.out).imp λσ H Q I=>by
 obtain⟨W,env,o,env',ok,q,k⟩:=I;cases e1:f env with
 |none=>simp[e1] at q |some r =>
   obtain⟨d,env1⟩:=r;cases d with
   |int i =>
     have q:↑(↑i,env1)=↑(o,env'):=by simpa[gS,e1] using q
     cases q;exact⟨W,env,_,_,ok,e1,λW1 U H1 S D p1=>⟨i,p1.int_,k W1 H1 S D⟩⟩
   |_=>simp[e1] at q⟩
def cutD(xs:fh)(lo hi:ew):fh:=(xs.drop (HT.sIx xs.length 0 lo)).take (HT.sIx xs.length xs.length hi-HT.sIx xs.length 0 lo)
def aF.cut(r:aF K H O ds vs)(lo hi:ew):aF K H O (cutD ds lo hi) (fW vs lo hi):=by
 unfold cutD fW;rw[r.length];exact(r.drop _).take _
@[simp] def gT(f:FE)(l h:FO):FA:=λe=>(f e).bind λr=>(l r.2).bind λD=>(h D.2).bind λI=>match r.1 with | .lst ds=>↑(cutD ds D.1 I.1,I.2) |_=>none
variable{fl:Value}
def u5{lo hi:Option Expr}{fl U:FO}{sp:Pos}(g:aN X G H0 a f)(i:kR X G H0 lo fl)(j:kR X G H0 hi U) :
  fX X G H0 (.Subscript a (.Slice lo hi none sp) pos) (gT f fl U):=⟨(xC xM g.out i.out j.out).imp λσ H Q m=>by
 obtain⟨W,env,d,env',ok,q,k⟩:=m;cases e1:f env with
 |none=>simp[e1] at q |some r =>
   obtain⟨n,env1⟩:=r;cases e2:fl env1 with
   |none=>simp[e1,e2] at q |some r2 =>
     obtain⟨b,D⟩:=r2;cases e3:U D with
     |none=>simp[e1,e2,e3] at q |some r3 =>
       obtain⟨c,I⟩:=r3;cases n with
       |lst ds =>
         have q:↑(cutD ds b c,I)=↑(d,env'):=by simpa[gT,e1,e2,e3] using q
         cases q;refine⟨W,env,_,_,ok,e1,λW1 z H1 o S p1=>⟨W1,env1,_,_,S,e2,λp H2 s2 V=>⟨p,D,_,_,V,e3,λs A e Y=>?_⟩⟩⟩;obtain⟨l,us,rfl,h,r⟩:=(S.rep (s2.trans e) p1).lst_;refine⟨l,us,rfl,h.sq,λt u=>?_⟩;obtain⟨h1,h2,v,w,x,y⟩:=qu Y (r.cut b c) u;exact k s t _ _ (((o.trans s2).trans e).trans h1) h2 v w x y
       |_=>simp[e1,e2,e3] at q⟩
def zG(K:e5):R2:=λx y H Q=>∃l b xs D,x=.ref l/\y=.ref b/\cK K H l xs/\cK K H b D/\xs.length+D.length<=sizeLine/\∀p,H p=none->Q (.ref p) (aR H p (.lst (xs++D)))
theorem zH:eN X (binaryOp .Add) (zG X.K):=by
 intro pins s σ H x y v u Q I g i h;obtain⟨l,b,xs,w,rfl,rfl,j,k,A,q⟩:=h;cases g;cases i;obtain⟨its,r,⟨⟨cls,dd,data,sl⟩,n,d,m,V,hd⟩,z⟩:=I.list j;obtain⟨D,e,⟨⟨f,o,data2,Y⟩,p,S,a,U,c⟩,B⟩:=I.list k;subst m hd a c V U;have C:=r.length;have t:=e.length;refine concat_meets ⟨_,d,rfl⟩ ⟨_,S,rfl⟩ noFill_list_add seq_list_add PySem.F.slot_list_add PySem.F.entry_list_add (PySem.F.args_list_add_2 _ _) (list_addW l b its.toArray D.toArray n p none none sl Y (by simp;lia)) ⟨d,S,?_⟩;have ea:its.toArray++D.toArray=(its++D).toArray:=by simp
 rw[ea];exact⟨.ref _,_,I.lnew (t':=s.toks) (r.append e) (by rw[bd];lia),rfl,q _ I.fresh⟩
@[simp] def bJ(f g:FE):FA:=λe=>(f e).bind λr=>(g r.2).bind λq=>match r.1,q.1 with | .lst ds,.lst es=>if cE (ds.length+es.length) then ↑(ds++es,q.2) else none |_,_=>none
def km(c:aN X G H0 a f)(e:aN X G H0 b g):fX X G H0 (.BinOp a .Add b pos) (bJ f g):=⟨(p3 zH c.out e.out).imp λσ H Q i=>by
 obtain⟨W,env,d,env',ok,q,k⟩:=i;cases e1:f env with
 |none=>simp[e1] at q |some r =>
   obtain⟨j,env1⟩:=r;cases e2:g env1 with
   |none=>simp[e1,e2] at q |some r2 =>
     obtain⟨m,D⟩:=r2;cases j with
     |lst ds =>
       cases m with
       |lst es =>
         by_cases S:cE (ds.length+es.length)
         ·have q:↑(ds++es,D)=↑(d,env'):=by simpa only[bJ,e1,e2,ae,am S] using q
          cases q;refine⟨W,env,_,_,ok,e1,λW1 y H1 o I p1=>⟨W1,env1,_,_,I,e2,λp z H2 s2 U p2=>?_⟩⟩;obtain⟨l,us,rfl,h,r⟩:=(I.rep s2 p1).lst_;obtain⟨s,V,rfl,h',Y⟩:=p2.lst_;refine⟨l,s,us,V,rfl,rfl,h.sq,h'.sq,?_,λn t=>?_⟩
          ·rw[<-r.length,<-Y.length];exact b5 S (by rw[fb];decide)
          ·obtain⟨h1,h2,u,v,w,x⟩:=qu U (r.append Y) t
           exact k p n _ _ ((o.trans s2).trans h1) h2 u v w x
         ·simp only[bJ,e1,e2,ae,b3 S] at q;cases q
       |_=>simp[e1,e2] at q
     |_=>simp[e1,e2] at q⟩
@[simp] def ij(i:Nat):FE:=λe=>match e[i]? with
 |some ↑(.ow ds)=>↑(.int ds.length,e) |some ⇑(.lst ds)=>↑(.int ds.length,e) |some ⇑(.tup ds)=>↑(.int ds.length,e) |_=>none
variable{p1:Pos}
def j8(an:bI Nn Cn X)(U:Bn X "len":=by walk_at "b")(S:‹Nn[i]?=↑x›)(V:‹starEach [.Name x p1] X.env=(false,eval (.Name x p1) X.env)::starEach [] X.env›):aN X G H0 (.Call (.Name "len" p') [.Name x p1] [] pos) (ij i) :=
 ⟨(rq qq U.g U.m PySem.boot_len (j6 ((an.a S).pe) lx V) (by decide) (by decide) V rfl).imp λσ H Q Y=>by
  obtain⟨W,env,d,env',ok,q,k⟩:=Y;unfold ij at q;split at q
  ·rename_i ds D
   cases q;obtain⟨v,I,l,vs,rfl,c,b,r⟩:=ok.slot i _ D;exact⟨_,I,l,vs,rfl,.inl (.inl (.inl b)),by rw[<-r.length];exact k W _ H Step.refl ok ↥_⟩
  ·rename_i ds D
   cases q;obtain⟨v,I,r⟩:=ok.slot i _ D;obtain⟨l,us,rfl,h,r⟩:=aQ.lst_ r;exact⟨_,I,l,us,rfl,.inl h.sq,by rw[<-r.length];exact k W _ H Step.refl ok ↥_⟩
  ·rename_i ds D
   cases q;obtain⟨v,I,r⟩:=ok.slot i _ D;obtain⟨l,us,rfl,h,r⟩:=aQ.tup_ r;exact⟨_,I,l,us,rfl,.inr (dA.of h),by rw[<-r.length];exact k W _ H Step.refl ok ↥_⟩
  ·cases q⟩
@[simp] def eF:D->Option f0->fk
 | .int k,↑↑(.ow ds)=>bZ ds k | .int k,↑⇑(.lst ds)=>bZ ds k | .int k,↑⇑(.tup ds)=>bZ ds k |_,_=>none
@[simp] def aK(i:Nat)(g:FE):FE:=λe=>match e[i]? with
 |some ↑_=>(g e).bind λr=>(eF r.1 r.2[i]?).map λd=>(d,r.2)
 |_=>none
def ja(o:aN X G H0 b g)(an:bI Nn Cn X)(p:uc b:=by intro _ _;rfl)(e:‹Nn[i]?=↑x›):aN X G H0 (.Subscript (.Name x p1) b pos) (aK i g) :=
 ⟨(yp pZ ((an.a e).pe) o.out p).imp λσ H Q s=>by
  obtain⟨W,env,d,env',ok,q,k⟩:=s;unfold aK at q;split at q;case h_2=>cases q
  rename_i w f;obtain⟨v,c,_⟩:=ok.slot i _ f;cases e1:g env with
  |none=>rw[e1] at q;cases q
  |some r =>
    obtain⟨m,env1⟩:=r;rw[e1,ae] at q;cases e3:eF m env1[i]? with
    |none=>rw[e3] at q;cases q
    |some d' =>
      rw[e3] at q;cases q;refine⟨v,c,W,env,m,_,ok,e1,λW1 y H1 j D p1=>?_⟩;unfold eF at e3;split at e3
      ·rename_i S ds U
       obtain⟨n,I,l,vs,rfl,z,t,r⟩:=D.slot i _ U;rw[c] at I;cases I;obtain⟨u,V,Y⟩:=rc r e3;exact .inl ⟨l,vs,S,u,rfl,p1.int_,.inl (.inl t),V,k W1 _ H1 j D Y⟩
      ·rename_i S ds U
       obtain⟨n,I,r⟩:=D.slot i _ U;rw[c] at I;cases I;obtain⟨l,us,rfl,h,r⟩:=aQ.lst_ r;obtain⟨u,V,Y⟩:=rc r e3;exact .inl ⟨l,us,S,u,rfl,p1.int_,h.sq,V,k W1 _ H1 j D Y⟩
      ·rename_i S ds U
       obtain⟨n,I,r⟩:=D.slot i _ U;rw[c] at I;cases I;obtain⟨l,us,rfl,h,r⟩:=aQ.tup_ r;obtain⟨u,V,Y⟩:=rc r e3;exact .inr (.inl ⟨l,us,S,u,rfl,p1.int_,dA.of h,V,k W1 _ H1 j D Y⟩)
      ·cases e3⟩
@[simp] def iH:D->String | .non=>"NoneType" | .bl _=>"bool" | .int _=>"int" | .str _=>"str" | .tup _=>"tuple" | .lst _=>"list" | .dct _ _=>"dict" | .exc _=>"exc"
@[simp] def gI(t T:String):Bool:=t==T || (t=="bool" && T=="int")
def yz(T:String):Bool:=T=="int" || T=="bool" || T=="str" || T=="tuple" || T=="list"
def zI(K:e5)(d:D)(T:String)(h:yz T=true)(hd:∀a,d≠.exc a):PySem.W.kitOne K (.type (iH d)) (.type T)=↑(gI (iH d) T):=by
 simp only[yz,Bool.or_eq_true,im] at h;rcases h with(((rfl |rfl) |rfl) |rfl) |rfl <;> cases d <;> first |rfl |exact absurd rfl (hd _)
def qV:l4 X (.builtin "isinstance") (λxs H Q=>∃x T t b,xs=[x,.ty T]/\(dF X.K H x t\/(t=.type "list"/\∃a us,x=.ref a/\cK X.K H a us))/\PySem.W.kitOne X.K t (.type T)=↑b/\Q (.bl b) H):=by
 intro pins s σ H xs us Q I r h;obtain⟨x,T,t,b,rfl,D,e,q⟩:=h;obtain⟨u,U,rfl,S,rt⟩:=pG r;cases (show U=Value.type T from rt);rcases D with D | ⟨rfl,a,ws,rfl,hq⟩
 ·exact wY I S D e λtk=>⟨.bl b,H,I.tok tk,rfl,q⟩
 ·cases (show u=Value.ref a from S)
  obtain⟨its,_,⟨o,n,h1,h2,_⟩,_⟩:=I.list hq;exact cx li I.kIn ⟨o,h1,h2⟩ e (λz=>nomatch z) λtk=>⟨.bl b,H,I.tok tk,rfl,q⟩
def zJ(r:aQ K H O d v)(hd:∀a,d≠.exc a):dF K H v (.type (iH d))\/(Value.type (iH d)=.type "list"/\∃a us,v=.ref a/\cK K H a us):=by
 cases r with
 |non=>exact .inl .non |bl b=>exact .inl (.bl b) |int i=>exact .inl ↥i
 |str s=>exact .inl (.str s) |tup h _=>exact .inl (.tup h) |lst o h _=>exact .inr ⟨rfl,_,_,rfl,.inl h⟩ |klst h _=>exact .inr ⟨rfl,_,_,rfl,.inr h⟩ |dct h _=>exact .inl (.dK h) |exc a=>exact absurd rfl (hd a)
def mE:bootBuiltins "isinstance" = ↑(.builtin "isinstance"):=by decide +kernel
@[simp] def dN(T:String)(f:FE):FE:=λe=>(f e).bind λr=>match r.1 with | .exc _=>none |d=>↑(.bl (gI (iH d) T),r.2)
structure Ty (x:Str) (T:String):Prop where
 b:bootBuiltins x=↑(.type T)
 k:yz T=true
 d:(x==("__debug__" : Str))=false
 n:x ≠ "__name__"
def mj(D:Ty x T)(h:aN X G H0 a f)(c:Bn X "isinstance":=by walk_at "b")(I:Gl X x:=by walk_at "g")(S:X.mg x=none:=by assumption)(e:‹starEach [a,.Name x p1] X.env=(false,eval a X.env)::starEach [.Name x p1] X.env›)(U:‹starEach [.Name x p1] X.env=(false,eval (.Name x p1) X.env)::starEach [] X.env›)(V:‹(backTo pos (starEach [.Name x p1] X.env)).any (·.1)=false›) :
  aN X G H0 (.Call (.Name "isinstance" p') [a,.Name x p1] [] pos) (dN T f) :=
 ⟨(rq qV c.g c.m mE (j6 h.out (j6 (zx (v:=.ty T) I S D.b rfl D.n D.d) lx U) e) (by decide) (by decide) e V).imp λσ H Q i=>by
  obtain⟨W,env,d,env',ok,q,k⟩:=i;cases e1:f env with
  |none=>simp[e1] at q |some r =>
    unfold dN at q;rw[e1,ae] at q;split at q
    ·cases q
    ·rename_i hd
     cases q;exact⟨W,env,_,_,ok,e1,λW1 j H1 l Y p1=>⟨j,T,_,_,rfl,zJ p1 hd,zI X.K _ T D.k hd,k W1 _ H1 l Y (.bl _)⟩⟩⟩
abbrev FI:=DE0->Option (fh×DE0)
structure Walk (K:e5) (G:Gd) (J:It) (W:Addr->Prop) (H:Hp) (ds:fh):Prop where
 go:∀W' H' (i:Nat) d,Step W H W' H'->ds[i]?=↑d->J.go i H'/\∀x H'',J.yld i H' x H''->H''=H'/\aQ K H' (Ow G W') d x
 stop:∀W' H',Step W H W' H'->J.stop ds.length H'
def qW(K:e5)(G:Gd)(H0:Hp)(f:FI):TI:=λσ H R=>DP K G H0 f (λW env ds env' =>
 ∀W' J H',Step W H W' H'->Ok K G H0 W' env' σ H'->Walk K G J W' H' ds->R J H') σ H
structure kS (Cm:Cx->Prop) (X:Cx) (G:Gd) (H0:Hp) (tg:Expr) (e:Expr) (f:FI):Prop where
 out:gX Cm X tg e (qW X.K G H0 f)
abbrev iS:=kS λX=>X.calm=true
def PI.imp(h:PI X tg e t)(i:∀σ H Q,t' σ H Q->t σ H Q):PI X tg e t':=λpins s σ H Q I q=>h pins s σ H Q I (i σ H Q q)
def gX.imp(h:gX Cm X tg e t)(i:∀σ H Q,t' σ H Q->t σ H Q):gX Cm X tg e t':=λpins s σ H Q I q=>h pins s σ H Q I (i σ H Q q)
def zK{a:Addr}(ok:Ok X.K G H0 W env σ H)(h:fO X.K H (Ow G W) a vs)(r:aF X.K H (Ow G W) ds vs):Walk X.K G (lH X.K a) W H ds where
 go:=λW' H' i d st e=>by
  obtain⟨v,D,I⟩:=(ok.reps st r).get e;have h':=(ok.lsstep st h).sq;exact⟨⟨vs,v,h',D⟩,λx H'' ⟨e2,y⟩=>⟨e2,by have:=y vs h';rw[D] at this;cases this;exact I⟩⟩
 stop:=λW' H' st=>⟨vs,(ok.lsstep st h).sq,by rw[r.length];exact bn _⟩
def zL{a:Addr}(ok:Ok X.K G H0 W env σ H)(h:H a=↑(.tup vs))(r:aF X.K H (Ow G W) ds vs):Walk X.K G (lI X.K a) W H ds where
 go:=λW' H' i d st e=>by
  obtain⟨v,D,I⟩:=(ok.reps st r).get e;have h':=ok.tstep st a vs h;exact⟨⟨vs,v,dA.of h',D⟩,λx H'' ⟨e2,y⟩=>⟨e2,by have:=y vs (dA.of h');rw[D] at this;cases this;exact I⟩⟩
 stop:=λW' H' st=>⟨vs,dA.of (ok.tstep st a vs h),by rw[r.length];exact bn _⟩
def zM{lo:Int}:Walk X.K G (iE lo n) W H ((List.range n).map λ(k:Nat)=>D.int (lo+(k:Int))) where
 go:=λW' H' i d st e=>by
  rw[bh] at e;have hi:i<n:=by
   have:=(ah.mp (show((List.range n).map λ(k:Nat)=>D.int (lo+(k:Int)))[i]?=↑d by rw[bh];exact e)).1;simpa using this
  rw[List.getElem?_range hi] at e;cases e;exact⟨hi,λx H'' ⟨e2,y⟩=>⟨e2,by rw[y];exact .int _⟩⟩
 stop:=λW' H' st=>by rw[af,fg];exact bn _
@[simp] def dW(f:FE):FI:=λe=>(f e).bind λr=>match r.1 with | .lst ds=>↑(ds,r.2) | .tup ds=>↑(ds,r.2) |_=>none
def PI.or(h:PI X tg e t)(h':PI X tg e t'):PI X tg e (λσ H R=>t σ H R\/t' σ H R):=λpins s σ H R I q=>q.elim (h pins s σ H R I) (h' pins s σ H R I)
def lw(h:aN X G H0 e f):iS X G H0 tg e (dW f):=⟨((py h.out).or (vW h.out)).imp λσ H R S=>by
 obtain⟨W,env,ds,env',ok,q,k⟩:=S;cases e1:f env with
 |none=>simp[e1] at q |some r =>
   obtain⟨d,env1⟩:=r;cases d with
   |lst ds' =>
     have q:↑(ds',env1)=↑(ds,env'):=by simpa[dW,e1] using q
     cases q;refine .inl ⟨W,env,_,_,ok,e1,λW1 U H1 I D p1=>?_⟩;obtain⟨a,vs,rfl,h.out,r⟩:=p1.lst_;exact⟨a,rfl,⟨vs,h.out.sq⟩,k W1 _ H1 I D (zK D h.out r)⟩
   |tup ds' =>
     have q:↑(ds',env1)=↑(ds,env'):=by simpa[dW,e1] using q
     cases q;refine .inr ⟨W,env,_,_,ok,e1,λW1 U H1 I D p1=>?_⟩;obtain⟨a,vs,rfl,h.out,r⟩:=p1.tup_;exact⟨a,rfl,⟨vs,dA.of h.out⟩,k W1 _ H1 I D (zL D h.out r)⟩
   |_=>simp[e1] at q⟩
def bK(lo:Int)(n:Nat):fh:=(List.range n).map λ(k:Nat)=>D.int (lo+(k:Int))
def eV(ds:fh):Option fh:=match ds with | [↥j]=>if jC (-(2 ^ 62)) (2 ^ 62) j then ↑(bK 0 j.toNat) else none |_=>none
def qX(hT:∀(it:Addr) (lo:Int) (n:Nat),pz Cm X.prog X.w X.K tg (iE lo n) [it] it (λi h=>IsRangeIter h it (lo+(i:Nat)*1) ((n:Int)-(i:Nat)) 1))(U:d_ X G H0 [a] F)(I:Bn X "range":=by walk_at "b")(V:‹starEach [a] X.env=[(false,eval a X.env)]›):kS Cm X G H0 tg (.Call (.Name "range" p') [a] [] pos) (gm eV F) :=
 ⟨gX.imp (vZ hT I.g I.m U.out V) λσ H R Y=>by
  obtain⟨W,env,ds,env',ok,q,k⟩:=Y;cases e1:F env with
  |none=>simp[e1] at q |some z =>
    obtain⟨as,env1⟩:=z;cases e2:eV as with
    |none=>simp[e1,e2] at q |some d' =>
      have q:↑(d',env1)=↑(ds,env'):=by simpa[gm,e1,e2] using q
      cases q;refine⟨W,env,as,_,ok,e1,λW1 vs H1 b D p1=>?_⟩;unfold eV at e2;split at e2
      ·rename_i j
       split at e2
       ·rename_i S
        cases e2;obtain⟨v,rfl,c⟩:=nu p1;cases c;exact⟨j,rfl,S.1,S.2,k W1 _ H1 b D zM⟩
       ·cases e2
      ·cases e2⟩
def pi(D:d_ X G H0 [a] F)(I:Bn X "range":=by walk_at "b")(S:‹starEach [a] X.env=[(false,eval a X.env)]›):iS X G H0 tg (.Call (.Name "range" p') [a] [] pos) (gm eV F):=qX (λit lo n=>wp it lo n) D I S
def fE:f0->f0 |some (.sh d)=>⇑d |_=>none
def lp(tt:FT)(te:FE)(base:DE0):fh->Option fh
 | []=>↑[] |d::r=>(tt (⇑d::base)).bind λb=>if b.1=true then(te b.2).bind λv=>(lp tt te base r).map (v.1::·) else lp tt te base r
def ii(fi:FI)(ix:ee)(tt:FT)(te:FE):FA:=λe=>(fi e).bind λr=>if cE r.1.length then(lp tt te (ix.map λj=>fE (r.2.getD j none)) r.1).map λds=>(ds,r.2) else none
@[simp] def cB:FT:=λe=>↑(true,e)
def fY(K:e5)(f:FT):TT:=λσ H Q=>∃G H0,kQ K G H0 f σ H Q
def jZ(K:e5)(f:FE):TE:=λσ H Q=>∃G H0,tD K G H0 f σ H Q
def cA:Addr->Prop:=λ_=>False
variable{cap:f0->f0}
def zN{pre:DE0}{σp:St}(ok:Ok X.K G H0 W env σ H)(b:∀a,H a=none->G' a)(S:pre.length=σp.length)(c:∀(i:Nat) (s:Sl),pre[i]?=↑↑s->∃d u,s=.sh d/\σp[i]?=↑↑u/\aQ X.K H (Ow G' cA) d u)(f:∀(U s:Sl) (u:V),cap ↑U=↑s->cJ X.K G W H U u->∃d,s=.sh d/\aQ X.K H (Ow G' cA) d u)(Y:cap none=none) :
  Ok X.K G' H cA (pre++ix.map λj=>cap (env.getD j none)) (σp++ix.map λj=>σ.getD j none) H:=by
 have D:∀(i:Nat) (s:Sl),(pre++ix.map λj=>cap (env.getD j none))[i]?=↑↑s->∃d u,s=.sh d/\(σp++ix.map λj=>σ.getD j none)[i]?=↑↑u/\aQ X.K H (Ow G' cA) d u:=λi s z=>by
  by_cases hi:i<pre.length
  ·rw[ao hi] at z
   rw[ao (S ▸ hi)];exact c i s z
  ·have hi:=gn hi
   rw[bj hi,bh] at z;rw[bj (S ▸ hi),<-S,bh];obtain⟨j,q,z⟩:=cg.mp z;rw[q,aq] at *;cases q2:env[j]? with
   |none=>rw[q2] at z;exact absurd (Y.symm.trans z) nofun |some o =>
     rw[q2] at z;cases o with
     |none=>exact absurd (Y.symm.trans z) nofun |some U =>
       obtain⟨u,I,r⟩:=ok.slot j _ q2;obtain⟨d,g,r⟩:=f U s u z r;exact⟨d,u,g,by rw[bi,aq,I];rfl,r⟩
 refine⟨aU.refl _,b,λl z=>z.elim,λi s e=>?_,λi j h s2 k m a I _ _ _ o _=>by obtain⟨d',_,rfl,_⟩:=D i h I;exact o.elim,by simp[S]⟩;obtain⟨d,u,rfl,I,r⟩:=D i s e;exact⟨u,I,r⟩
def zO(S:∀ {d:D} {v:V},aQ X.K H (Ow G W) d v->aQ X.K H (Ow G' cA) d v):∀(I s:Sl) (u:V),fE ↑I=↑s->cJ X.K G W H I u->∃d,s=.sh d/\aQ X.K H (Ow G' cA) d u:=λI s u z r=>by
 cases I <;> cases z;exact⟨_,rfl,S r⟩
def zP(ok:Ok X.K G H0 W env σ H)(r:aQ X.K H (Ow G W) d v) :
  Ok X.K (gd λa=>Ow G W a\/H a=none) H cA (⇑d::ix.map λj=>fE (env.getD j none)) (↑v::ix.map λj=>σ.getD j none) H:=by
 have I:∀ {d:D} {v:V},aQ X.K H (Ow G W) d v->aQ X.K H (Ow (gd λa=>Ow G W a\/H a=none) cA) d v:=λr=>r.mono (λ_ _ h=>h) λa us o h=>⟨⟨.inl o,λz=>z⟩,h⟩;refine zN (pre:=[⇑d]) (σp:=[↑v]) ok (λa z=>.inr z) rfl (λi s z=>?_) (zO I) rfl;cases i with
 |zero=>cases z;exact⟨d,v,rfl,rfl,I r⟩
 |succ i=>cases z
inductive hF (K:e5) (O:Addr->Prop) (H1:Hp) (ds d:fh) (f:fh->Option fh) (i m:Nat) (H':Hp) (ys:fe):Prop
 |mk (rest done:fh) (hm:m=ds.length-i) (hi:i<=ds.length) (sm:aU H1 H') (rp:aF K H' O done ys) (hd:done.length<=i) (ec:f (ds.drop i)=↑rest) (hz:d=done++rest):hF K O H1 ds d f i m H' ys
def qY:2 ^ 20<=sizeLine:=by rw[fb];decide
structure qZ (K:e5) (G:Gd) (J:It) (W:Addr->Prop) (H:Hp) (ds:fh):Prop where
 go:∀H' (i:Nat) d,aU H H'->ds[i]?=↑d->J.go i H'/\∀x H'',J.yld i H' x H''->H''=H'/\aQ K H' (Ow G W) d x
 stop:∀H',aU H H'->J.stop ds.length H'
protected def Walk.s(I:Walk K G J W H ds):qZ K G J W H ds:=⟨λH2 i d D e=>I.go W H2 i d (Step.same D) e,λH2 D=>I.stop W H2 (Step.same D)⟩
def mG(K:e5)(G:Gd)(H0:Hp)(f:FI):TI:=λσ H R=>DP K G H0 f (λW env ds env' =>
 ∀W' J H',Step W H W' H'->Ok K G H0 W' env' σ H'->qZ K G J W' H' ds->R J H') σ H
variable{tt:FT}{te:FE}{fn:fh->Option fh}{env1:DE0}
def zQ{d rest I:fh}{o:DE0}{V:St}(t:cE ds.length)(S:i<ds.length)(l:Ok X.K G' H2 cA o V H2)(f:Ok X.K G H0 W1 env1 σ H2)(p:aU H1 H2)(m:aF X.K H2 (Ow G W1) I ys)(hd:I.length<=i)(n:d=I++rest)(c:((tt o).bind λb=>if b.1=true then(te b.2).bind λv=>(fn (ds.drop (i+1))).map (v.1::·) else fn (ds.drop (i+1)))=↑rest)(back:∀ {q g e w},aQ X.K g (Ow G' q) e w->e∈d->aQ X.K g (Ow G W1) e w) :
  fY X.K tt V H2 λb H2=>if b=true then jZ X.K te V H2 λv g=>ys.length<sizeLine/\∃h,h<ds.length-i/\hF X.K (Ow G W1) H1 ds d fn (i+1) h g (ys++[v]) else ∃h,h<ds.length-i/\hF X.K (Ow G W1) H1 ds d fn (i+1) h H2 ys:=by
 obtain⟨⟨b,U⟩,u,c⟩:=b0.mp c;refine⟨_,_,cA,_,b,U,l,u,λx H2 s2 Y=>?_⟩;have r:ds.length-(i+1)<ds.length-i:=Nat.sub_succ_lt_self _ _ S;cases b with
 |false=>exact⟨_,r,rest,I,rfl,S,p.trans Y.stay,f.reps (Step.same Y.stay) m,lj hd,c,n⟩ |true =>
   obtain⟨⟨e,j⟩,y,c⟩:=b0.mp c;obtain⟨a,z,s⟩:=cg.mp c;refine⟨_,_,x,U,e,j,Y,y,λq v g A k r3=>⟨?_,_,r,a,I++[e],rfl,S,p.trans k.stay,(f.reps (Step.same k.stay) m).append (.cons (back r3 (by rw[n,<-s];simp)) .nil),?_,z,?_⟩⟩
   ·rw[<-m.length];exact az (kn hd (az S t)) qY
   ·rw[bd];exact Nat.succ_le_succ hd
   ·rw[n,<-s,c8];rfl
def zR{d rest I:fh}(b:cE ds.length)(S:i<=ds.length)(U:¬i<ds.length)(V:Ok X.K G H0 W1 env1 σ H')(c:Step W H W1 H1)(e:aU H1 H')(Y:aF X.K H' (Ow G W1) I ys)(hd:I.length<=i)(f:d=I++rest)(a:fn (ds.drop i)=↑rest)(g:fn []=↑[])(k:∀W' l vs H',Step W H (b_ W' l) H'->Ok X.K G H0 W' env1 σ H'->Ok X.K G H0 (b_ W' l) env1 σ H'->¬W' l->H' l=↑(.lst vs)->aF X.K H' (Ow G (b_ W' l)) d vs->Q (.ref l) H'):ys.length<=sizeLine/\∀D,H' D=none->Q (.ref D) (aR H' D (.lst ys)):=by
 cases nq S (gn U);rw[List.drop_length,g] at a;cases a;refine⟨by rw[<-Y.length];exact b5 hd (b5 b qY),λl h=>?_⟩;obtain⟨h1,h2,j,m,n,o⟩:=qu V Y h;rw[f,cr] at k;exact k W1 l _ _ ((c.trans (Step.same e)).trans h1) h2 j m n o
variable{fi:FI}
def zS{f:FA}{pr:D->Prop}(s:∀ {e d e'},f e=↑(d,e')->∃ds,fi e=↑(ds,e')/\cE ds.length/\lp tt te (ix.map λj=>cap (e'.getD j none)) ds=↑d/\∀x∈d,pr x)(hi:∀ {W env σ H d v},Ok X.K G H0 W env σ H->aQ X.K H (Ow G W) d v->∃G',Ok X.K G' H cA (⇑d::ix.map λj=>cap (env.getD j none)) (↑v::ix.map λj=>σ.getD j none) H/\∀ {W3 H3 dv w},aQ X.K H3 (Ow G' W3) dv w->pr dv->aQ X.K H3 (Ow G W) dv w) :
  ∀σ H Q,gD X.K G H0 f σ H Q->qm (mG X.K G H0 fi) ix (fY X.K tt) (jZ X.K te) σ H Q:=λσ H Q z=>by
 obtain⟨W,env,d,env1,ok,q,k⟩:=z;obtain⟨ds,t,g,u,A⟩:=s q;refine⟨W,env,ds,_,ok,t,λW1 J H1 B Y l=>⟨hF X.K (Ow G W1) H1 ds d (lp tt te (ix.map λj=>cap (env1.getD j none))),⟨ds.length,d,[],rfl,gh _,aU.refl _,.nil,bn _,u,rfl⟩,λi m H' ys z=>?_⟩⟩;obtain⟨rest,n,C,U,V,o,hd,a,p⟩:=z;subst C;have S:=Y.same V;by_cases I:i<ds.length
 ·rw[iw I] at a
  obtain⟨E,F⟩:=l.go H' i ds[i] V (au I);refine .inr ⟨E,λx b y=>?_⟩;obtain⟨e,L⟩:=F x b y;subst e;obtain⟨G',c,back⟩:=hi S L;exact zQ g I c S V o hd p a λr h=>back r (A _ h)
 ·exact .inl ⟨by cases nq U (gn I);exact l.stop H' V,zR g U I S B V o hd p a rfl k⟩
def zT:∀σ H Q,gD X.K G H0 (ii fi ix tt te) σ H Q->qm (mG X.K G H0 fi) ix (fY X.K tt) (jZ X.K te) σ H Q :=
 zS (cap:=fE) (pr:=λ_=>True) (λq=>by
  obtain⟨⟨ds,env1⟩,S,q⟩:=b0.mp q;by_cases D:cE ds.length;case neg=>cases (b3 D).symm.trans q
  obtain⟨I,U,q⟩:=cg.mp ((am D).symm.trans q);cases q;exact⟨ds,S,D,U,λ_ _=>trivial⟩) λok r=>⟨_,zP ok r,λr3 _=>r3.mono (λ_ _ h=>h) λa us o h=>⟨o.1.elim (λz=>z) λz=>⟨ok.good a (ok.stay.free z),λw=>by obtain⟨_,us,q⟩:=ok.wl a w;rw[z] at q;cases q⟩,h⟩⟩
def vg:∀σ H Q,gD X.K G H0 (ii fi ix tt te) σ H Q->qm (qW X.K G H0 fi) ix (fY X.K tt) (jZ X.K te) σ H Q:=λσ H Q z=>by
 obtain⟨W,env,ds,env',ok,e,k⟩:=zT σ H Q z;exact⟨W,env,ds,env',ok,e,λW' J H' s o w=>k W' J H' s o w.s⟩
variable{X':Cx}
def yk(S:X'.K=X.K):fB X' [] (fY X.K cB):=λpins s σ H Q I D=>by
 obtain⟨G,H0,W,env,b,env',ok,e,k⟩:=D;cases e;exact y2 pins s σ H Q I (k W H Step.refl ok)
def j_(D:X'.K=X.K)(h:∀G H0,eR X' G H0 c tt):fB X' [c] (fY X.K tt):=λpins s σ H Q I ⟨G,H0,q⟩=>y3 (h G H0).out pins s σ H Q I (by rw[D];exact q)
def hI(D:X'.K=X.K)(h:∀G H0,aN X' G H0 e te):PE X' e (jZ X.K te):=λpins s σ H Q I ⟨G,H0,q⟩=>(h G H0).out pins s σ H Q I (by rw[D];exact q)
def rb(an:bI Nn Cn X)(hi:iS X G H0 (.Name x px) a fi)(I:∀cl C s₂ H₂ fp G H0,bI (x::(a_ Nn ix)) (a_ Nn ix) (ir X x (a_ Nn ix) sc cl C s₂ H₂ fp)->aN (ir X x (a_ Nn ix) sc cl C s₂ H₂ fp) G H0 e te)(D:nz Nn Cn ix x sc=true:=by decide +kernel)(S:‹X.calm=true›)(U:∀v,foldedSetIterable a X.env v=pure v:=by intro _;rfl) :
  fX X G H0 (.ListComp e [⟨.Name x px,a,[],0⟩] sc pos) (ii fi ix cB te) :=
 ⟨(qJ (ub an D) (λ_ _ _ _ _ _ _ _ _=>S) hi.out (λcl C s₂ H₂ fp _=>yk (X:=X) rfl) (λcl C s₂ H₂ fp _=>hI (X:=X) rfl (λG H0=>I cl C s₂ H₂ fp G H0 (rn D))) U).imp vg⟩
def zU{U:Expr}(an:bI Nn Cn X)(hi:iS X G H0 (.Name x px) a fi)(I:∀cl C s₂ H₂ fp G H0,bI (x::(a_ Nn ix)) (a_ Nn ix) (ir X x (a_ Nn ix) sc cl C s₂ H₂ fp)->eR (ir X x (a_ Nn ix) sc cl C s₂ H₂ fp) G H0 U tt)(S:∀cl C s₂ H₂ fp G H0,bI (x::(a_ Nn ix)) (a_ Nn ix) (ir X x (a_ Nn ix) sc cl C s₂ H₂ fp)->aN (ir X x (a_ Nn ix) sc cl C s₂ H₂ fp) G H0 e te)(D:nz Nn Cn ix x sc=true:=by decide +kernel)(V:‹X.calm=true›)(Y:∀v,foldedSetIterable a X.env v=pure v:=by intro _;rfl) :
  fX X G H0 (.ListComp e [⟨.Name x px,a,[U],0⟩] sc pos) (ii fi ix tt te) :=
 ⟨(qJ (ub an D) (λ_ _ _ _ _ _ _ _ _=>V) hi.out (λcl C s₂ H₂ fp _=>j_ (X:=X) rfl (λG H0=>I cl C s₂ H₂ fp G H0 (rn D))) (λcl C s₂ H₂ fp _=>hI (X:=X) rfl (λG H0=>S cl C s₂ H₂ fp G H0 (rn D))) Y).imp vg⟩
def dX(h h':Heap):Prop:=∀b o,h.get? b=↑o->∃o',h'.get? b=↑o'
def dX.trans{a b c:Heap}(x:dX a b)(y:dX b c):dX a c:=λp o q=>let ⟨o',e⟩:=x p o q;y p o' e
def mH{a:Addr}{f:Obj->Obj}(D:∀o,h.get? a=↑o->(h.update a f).get? a=↑(f o)):dX h (h.update a f):=λb o q=>by
 by_cases e:a=b
 ·subst e;exact⟨_,D o q⟩
 ·exact⟨o,(bq _ _ e).trans q⟩
structure hJ (B:Heap) (l:ep) (e:Addr) (cls fl:Value) (h:Heap):Prop where
 stay:B.StaysIn h
 new:B.get? e=none
 fr:h.FunFrames B l
 tr:∃oe vs T oT ts,h.get? e=↑oe/\oe.cls=cls/\oe.dict=none/\oe.data=.fields vs/\vs[1]?=↑(.ref T)/\vs[2]?=some .none/\B.get? T=none/\T≠e/\h.get? T=↑oT/\oT.data=.fields ts/\ts[3]?=↑fl
def zV(o:Obj)(f:fc->fc):(o.mapFields f).dict=o.dict:=by obtain⟨c,d,D,sl⟩:=o;cases D <;> rfl
variable{env:Env}{Q:Unit->Shared->Prop}{e L:Addr}{E:Value->Shared->Prop}{M:Model}{B:Heap}{outer:ep}
def q_{D:Obj}{vs:fc}{hd:Value}{nx:Bool}(t:A.frames=↑(env::outer))(Y:s.heap.FunFrames B (env::outer))(u:env.frame=↑L)(c:s.heap.get? e=↑D)(gd:D.dict=none)(I:D.data=.fields vs)(k:1<vs.size)(v:vs[2]?=some .none)(k1:B.StaysIn s.heap)(k2:B.get? e=none)(h:∀h',hJ B (env::outer) e D.cls (rawInt L) h'->s.heap.UpToSlots h'->dX s.heap h'->Q () { s with heap:=h' }) :
  wpAny M A (do let a <-frameOf env;let pl <-entryPlaceOf L nx;let b <-EntryCells.newEntry hd a .none (rawInt L) .none pl;setField (.ref e) 1 b) Q E s:=by
 have d:e∉(env::outer).filterMap (·.frame):=λz=>by
  obtain⟨_,o,l,w⟩:=Y.mem z;rw[c] at l;cases l;exact w vs I
 refine av (wpAny_frameOf_fun t Y u λh1 S=>?_);refine av (wpAny_entryPlaceOf λpl U=>?_);refine av (jm ?_ (U.sizeOk5 _ _ _ _ _));have m:h1.get? e=↑D:=(S.2.1 e d).trans c;have p:B.StaysIn h1:=λb o q=>(S.2.1 b λz=>by rw[(Y.mem z).1] at q;cases q).trans (k1 b o q);generalize V:({ cls:=.type "traceback",dict:=none,data:=.fields ([hd,.ref L,.none,rawInt L,.none]++(if pl.isEmpty then List.replicate 6 Value.none else pl)).toArray }:Obj)=ob;have f:∃ts,ob.data=.fields ts/\ts[3]?=↑(rawInt L):=by subst V;exact⟨_,rfl,by first | (simp;done) | (rcases U with rfl | ⟨_,_,_,_,_,_,_,rfl⟩ <;> simp)⟩
 have g:ob.isFreed=false:=by subst V;rfl
 have i:=aj (h:=h1) ob m;have r:h1.objs.size≠e:=ji (bc m);have j:=Obj.data_mapFields I (·.setIfInBounds 1 (Value.ref h1.objs.size));refine wpAny_setField i I k (h _ ?_ ?_ ?_)
 ·refine⟨λb o q=>?_,k2,Y.of_keeps λb o q n=>?_,?_⟩
  ·rw[bq _ _ (λz:e=b=>by rw[<-z,k2] at q;cases q)]
   exact aj _ (p b o q)
  ·obtain⟨sl,z⟩:=S.2.2 b o q
   refine⟨{ o with slots:=sl },?_,rfl⟩;rw[bq _ _ (λy:e=b=>by rw[<-y,c] at q;cases q;exact n vs I)];exact aj _ z
  ·obtain⟨ts,x,C⟩:=f
   refine⟨_,_,h1.objs.size,ob,ts,dz _ i (Obj.isFreed_of_fields j),Obj.cls_mapFields _ _,(zV _ _).trans gd,j,by simp[k],by rw[Array.getElem?_setIfInBounds_ne (by decide)];exact v,p.fresh,r,?_,x,C⟩;rw[bq _ _ (Ne.symm r)];exact b9 h1 g
 ·intro b o q n
  obtain⟨sl,z⟩:=S.2.2 b o q;refine⟨sl,?_⟩;rw[bq _ _ (λy:e=b=>by rw[<-y,c] at q;cases q;exact n vs I)];exact aj _ z
 ·intro b o q
  obtain⟨sl,z⟩:=S.2.2 b o q;exact mH (λo q=>dz _ q (by rw[i] at q;cases q;exact Obj.isFreed_of_fields j)) b _ (aj _ z)
variable{l:ep}{cls:Value}
def zp(x:hJ B l e cls fl s.heap)(h:∀h',hJ B l e cls .none h'->s.heap.UpToSlots h'->dX s.heap h'->Q () { s with heap:=h' }):wpAny M A (setFlight (.ref e) none) Q E s:=by
 obtain⟨j,vs,T,k,ts,U,d,gd,V,Y,g,a,c,D,I,i⟩:=x.tr;have sz:3<ts.size:=(ip.mp i).1;unfold setFlight;refine av (gk U V Y ?_);have S:=Obj.data_mapFields I (·.setIfInBounds 3 ((none:Option Addr).elim Value.none λf=>rawInt f));refine wpAny_setField D I sz (h _ ⟨λb o q=>?_,x.new,x.fr.of_keeps λb o q n=>⟨o,?_,rfl⟩,_,vs,T,_,_,(bq _ _ c).trans U,d,gd,V,Y,g,a,c,dz _ D (Obj.isFreed_of_fields S),S,by simp[sz]⟩ (λb o q n=>⟨o.slots,?_⟩) (mH λo q=>dz _ q (by rw[D] at q;cases q;exact Obj.isFreed_of_fields S)))
 ·exact(bq _ _ λz=>by rw[<-z,a] at q;cases q).trans (x.stay b o q)
 ·exact(bq _ _ λz=>by rw[<-z,D] at q;cases q;exact n ts I).trans q
 ·exact(bq _ _ λz=>by rw[<-z,D] at q;cases q;exact n ts I).trans q
def zW(d:A.frames=↑(env::outer))(S:env.frame=↑L)(x:hJ B (env::outer) e cls .none s.heap)(h:∀h',hJ B (env::outer) e cls (rawInt L) h'->s.heap.UpToSlots h'->dX s.heap h'->Q () { s with heap:=h' }):wpAny M A (noteFrame (.ref e) env) Q E s:=by
 obtain⟨k,vs,T,l,ts,U,f,gd,V,Y,g,i,j,D,I,a⟩:=x.tr;subst f;unfold noteFrame;simp only[S];refine av (gk U V Y ?_);refine av (gk D I a ?_);refine av (wpAny_setField D I (ip.mp a).1 ?_);have c:∀b o,s.heap.get? b=↑o->(∀vs,o.data≠.fields vs)->(s.heap.update T (Obj.mapFields (·.setIfInBounds 3 Value.none))).get? b=↑o:=λb o q n =>
  (bq _ _ λz=>by rw[<-z,D] at q;cases q;exact n ts I).trans q
 refine q_ d (x.fr.of_keeps λb o q n=>⟨o,c b o q n,rfl⟩) S ((bq _ _ j).trans U) gd V (ip.mp Y).1 g (λb o q=>(bq _ _ λz=>by rw[<-z,i] at q;cases q).trans (x.stay b o q)) x.new λh' y u w=>h h' y (λb o q n=>u b o (c b o q n) n) (dX.trans (mH λo q=>dz _ q (by rw[D] at q;cases q;exact Obj.isFreed_of_fields (Obj.data_mapFields I _))) w)
def zX(D:A.frames=↑(env::outer))(I:env.frame=↑L)(x:hJ B (env::outer) e cls .none s.heap)(h:∀h',hJ B (env::outer) e cls .none h'->s.heap.UpToSlots h'->dX s.heap h'->Q () { s with heap:=h' }):wpAny M A (noteFrame (.ref e) env) (λ_ S=>wpAny M A (setFlight (.ref e) none) Q E S) E s :=
 zW D I x λh1 U V Y=>zp U λh2 a b c=>h h2 a (V.trans b) (Y.trans c)
def zY{D:Heap}{args:d5}(U:A.frames=↑(env::outer))(V:D.FunFrames B (env::outer))(I:env.frame=↑L)(k1:B.StaysIn D)(m:Heap.MadeExcOf D s.heap e cls args)(h:∀h',hJ B (env::outer) e cls .none h'->s.heap.UpToSlots h'->dX s.heap h'->Q () { s with heap:=h' }):wpAny M A (noteFrame (.ref e) env) (λ_ Y=>wpAny M A (setFlight (.ref e) none) Q E Y) E s:=by
 obtain⟨t,S,_,_⟩:=m.there;have k2:B.get? e=none:=by
  cases q:B.get? e with
  |none=>rfl |some o=>have:=k1 e o q;rw[m.new] at this;cases this
 unfold noteFrame;simp only[I];refine av (gk S rfl (x:=Value.none) rfl ?_);exact q_ U (V.of_keeps λb o q _=>⟨o,m.keeps b o q,rfl⟩) I S rfl rfl ⋯ rfl (λb o q=>m.keeps b o (k1 b o q)) k2 λh1 a c d=>zp a λh2 f g i=>h h2 f (c.trans g) (d.trans i)
end L2
namespace L2
open PySem PySem.Spec PyProof.Rows PySem.W
def Cl(K:e5)(c:Str)(C:Addr):Prop:=PySem.W.nsIn K mainGlobals c=↑↑(.ref C)
def fZ(P:Program)(w:World)(l:ep)(H:Hp)(s:Shared)(C e:Addr)(H':Hp)(s':Shared):Prop :=
 ∃B,hJ B l e (.ref C) .none s'.heap/\(∀b o,s.heap.get? b=↑o->H b=none->b∉c_ l->B.get? b=↑o)/\dL P w H' B/\Un (c_ l) [] H H' s.heap s'.heap/\s'.os=s.os/\AllBare s'.gens
abbrev cP(P:Program)(w:World):fN:=λl H s E e s'=>∃ea C H',e=.ref ea/\fZ P w l H s C ea H' s'/\E (.ref C) none H'
def XS(X:Cx)(pins:e9)(σ:St)(H:Hp)(C e:Addr)(s':Shared):Prop :=
 (∃s H1,Inv X pins σ H1 s/\fZ X.prog X.w X.stack H1 s C e H s')\/∃s args,Inv X pins σ H s/\Heap.MadeExcOf s.heap s'.heap e (.ref C) args/\s'={ s with heap:=s'.heap }
variable{CX:fN}{P:Program}{w:World}{K:e5}{mg:Str->eb}{base:Heap}{x qual:Str}{st:Stmt}{f:Addr}{fd:FuncData}{N ps:d3}{k:Nat}{sp:Sp}
theorem fA.okX(F:fA K x qual st f fd)(S:mq N ps (d4 st))(len:∀vs H Q E,sp vs H Q E->vs.length=ps.length)(D:∀(cdv:Value) (A:Around) (outer:ep) (s:Shared) (H:Hp) (vs:fe) (Q:VK) (E:XK),aP k (A.deeper (envOfC qual (d4 st) s.heap.objs.size f cdv))->sp vs H Q E ->
   ∃t,e_ (aX CX P w K mg base N qual (d4 st) f cdv A outer s H E) (jg st) t/\t { nx:=λ_ H'=>Q .non H',rt:=Q } (i4 N vs) H):bD P w K mg base CX (k+1) f fd ps sp:=by
 obtain⟨oc,od,kV,Y,c,an,cdv,ct,osl,rfl,a,I⟩:=F.ex;exact x2 a I S len λA outer s H vs Q E b U=>D cdv A outer s H vs Q E b U
theorem fA.okC(F:fA K x qual st f fd)(S:mq N ps (d4 st))(len:∀vs H Q E,sp vs H Q E->vs.length=ps.length)(D:∀(cdv:Value) (A:Around) (outer:ep) (s:Shared) (H:Hp) (vs:fe) (Q:VK) (E:XK),aP k (A.deeper (envOfC qual (d4 st) s.heap.objs.size f cdv))->sp vs H Q E ->
   ∃t,e_ (aX CX P w K mg base N qual (d4 st) f cdv A outer s H E).nox (jg st) t/\t { nx:=λ_ H'=>Q .non H',rt:=Q } (i4 N vs) H):bD P w K mg base CX (k+1) f fd ps sp :=
 F.okX S len λcdv A outer s H vs Q E I h=>let ⟨t,p,q⟩:=D cdv A outer s H vs Q E I h;⟨t,p.nox,q⟩
variable{X:Cx}{pins:e9}{σ:St}{H H':Hp}{s s':Shared}{C e:Addr}
def fZ.inv(I:Inv X pins σ H s)(f:fZ X.prog X.w X.stack H s C e H' s'):Inv X pins σ H' s':=by
 obtain⟨B,x,_,D,un,os,S⟩:=f;exact I.call' (ch:=[]) os un (D.kept x.stay) S λb z=>absurd z ⋯
def XS.come{E:Value->Shared->Prop}{Q:Unit->Shared->Prop}(h:XS X pins σ H' C e s')(U:X.stack=X.env::X.outer)(p:X.env.frame=↑X.env.locals)(r:∀h2 D H1,Inv X pins σ H1 D->fZ X.prog X.w X.stack H1 D C e H' { s' with heap:=h2 }->Q () { s' with heap:=h2 }):wpAny (model X.prog X.w) X.A (noteFrame (.ref e) X.env) (λ_ D=>wpAny (model X.prog X.w) X.A (setFlight (.ref e) none) Q E D) E s':=by
 rcases h with⟨D,H1,I,f⟩ | ⟨D,args,I,m,es⟩
 ·obtain⟨B,x,s,t,un,os,v⟩:=f
  have st:=I.stack;rw[U] at x st;refine zX (I.ok.frames.trans (by rw[U])) p x λh2 V g Y=>r h2 D H1 I ⟨B,U ▸ V,s,t,⟨λb o q n S _=>V.stay b o (s b o q n S),λb o q n S i=>?_,un.free,λb o q i=>?_,un.tups,un.frzs,un.tbls⟩,os,v⟩
  ·obtain⟨sl,z⟩:=un.slot b o q n S i
   rw[U] at S;obtain⟨_,F,y,j⟩:=st.mem S;rw[q] at y;cases y;obtain⟨k,G⟩:=g b _ z j;exact⟨k,G⟩
  ·obtain⟨o',z⟩:=un.there b o q i
   exact Y b o' z
 ·have st:=I.stack
  have H:∀b∈c_ X.stack,H' b=none:=I.stkFree;have d:∀b o,H' b=↑o->b∉c_ X.stack:=λb o q z=>by rw[H b z] at q;cases q
  have l:dL X.prog X.w H' (hideAll D.heap (c_ X.stack)):=λb o q =>
   (I.hok b o q).stay (λc u hc z=>hideAll_get _ z (by rcases hc with rfl |hc;exact d _ _ q;exact d _ _ hc)) (λ_ z=>z) λ_ _ z=>z
  have J:D.heap.FunFrames (hideAll D.heap (c_ X.stack)) (X.env::X.outer):=U ▸ funFrames_hide (as:=c_ X.stack) st λenv Y a K=>ko.mpr ⟨env,Y,K⟩;refine zY (B:=hideAll D.heap (c_ X.stack)) (I.ok.frames.trans (by rw[U])) J p (λb o q=>of_hideAll _ q) m λh2 V g Y=>r h2 D H' I ⟨_,U ▸ V,λb o q n S=>hideAll_get _ q S,l,⟨λb o q n S _=>V.stay b o (hideAll_get _ q S),λb o q n S _=>?_,λ_ _ _ n _=>n,λb o q _=>Y b o (m.keeps b o q),λ_ _ z=>z,λ_ _ _ z=>z,λ_ ps z=>⟨#[],by rw[Array.append_empty];exact z⟩⟩,by rw[es],by rw[es];exact I.bare⟩;obtain⟨_,F,y,j⟩:=st.mem S;rw[q] at y;cases y;exact g b o (m.keeps b o q) j
def mI{scope:Scope}{D:Value}{A:Around}{outer:ep}{s₀:Shared}{H₀:Hp}{E:XK}(h:XS (aX (cP P w) P w K mg base N qual scope f D A outer s₀ H₀ E) pins σ H' C e s')(U:E (.ref C) none H'):(aX (cP P w) P w K mg base N qual scope f D A outer s₀ H₀ E).xe (.ref e) s':=by
 refine av (h.come rfl rfl λh2 a H1 I f=>⟨e,C,H',rfl,?_,U⟩);have J:=f.inv I;obtain⟨B,x,V,Y,_⟩:=f;refine⟨B,⟨x.stay,x.new,x.fr.2.2,x.tr⟩,λb o q n S=>?_,Y,J.base,J.os,J.bare⟩;refine V b o (I.base.keep b o q n S (by simp[aX])) (I.base.free b o q n (by simp[aX])) λz=>?_;rcases bz.mp (show b∈s₀.heap.objs.size::c_ outer from z) with z |z
 ·rw[z] at q;exact absurd (bc q) (dy _)
 ·exact S z
end L2
namespace L2
open PySem PySem.Spec PyProof.Rows
inductive Fl where
 |nx |bk |ct |rt (d:D) |rf (ds:fh) |r2 (dss:List fh) |xc (c:Str) |ra (k:AK) (ps:fw)
abbrev FS:=DE0->Option (Fl×DE0)
structure N2 (K:e5) (G:Gd) (H0 H:Hp) (l:Addr) (ls:ed) (dss:List fh):Prop where
 nd:(l::ls).Nodup
 new:∀a∈l::ls,H0 a=none
 cY:H l=↑(.lst (ls.map V.ref))
 len:ls.length=dss.length
 inn:∀(j:Nat) (ds:fh) (a:Addr),dss[j]?=↑ds->ls[j]?=↑a->∃vs,H a=↑(.lst vs)/\aF K H (λb=>G b/\b∉l::ls) ds vs
def cT(X:Cx)(G:Gd)(H0:Hp)(W:Addr->Prop)(H:Hp)(Dn:eY)(env':DE0):Fl->Prop
 | .nx=>∀W' D H',Step W H W' H'->Ok X.K G H0 W' env' D H'->Dn.nx D H' | .bk=>∀W' D H',Step W H W' H'->Ok X.K G H0 W' env' D H'->Dn.bk D H' | .ct=>∀W' D H',Step W H W' H'->Ok X.K G H0 W' env' D H'->Dn.ct D H' | .rt d=>∀W' D v H',Step W H W' H'->Ok X.K G H0 W' env' D H'->aQ X.K H' (Ow G W') d v->Dn.rt v H' | .rf ds=>∀l vs H',aU H0 H'->H0 l=none->H' l=↑(.lst vs)->aF X.K H' (λa=>G a/\a≠l) ds vs->Dn.rt (.ref l) H'
 | .r2 dss=>∀l ls H',aU H0 H'->N2 X.K G H0 H' l ls dss->Dn.rt (.ref l) H'
 | .xc c=>∀W' D H' C,Cl X.K c C->Step W H W' H'->Ok X.K G H0 W' env' D H'->∀pins e s',XS X pins D H' C e s'->X.xe (.ref e) s' | .ra k ps=>∀W' D p H',Step W H W' H'->Ok X.K G H0 W' env' D H'->cJ X.K G W' H' (.ag k none ps) (.ref p)->Dn.rt (.ref p) H'
def kT(X:Cx)(G:Gd)(H0:Hp)(g:FS):TS:=λDn σ H=>DP X.K G H0 g (λW env fl env'=> cT X G H0 W H Dn env' fl) σ H
structure dS (X:Cx) (G:Gd) (H0:Hp) (s:Stmt) (g:FS):Prop where
 out:PS X s (kT X G H0 g)
structure dU (X:Cx) (G:Gd) (H0:Hp) (s:List Stmt) (g:FS):Prop where
 out:e_ X s (kT X G H0 g)
variable{X:Cx}{e:Expr}{t t':TS}
def PS.imp{e:Stmt}(h:PS X e t)(i:∀D σ H,t' D σ H->t D σ H):PS X e t':=λpins s σ H D I q=>h pins s σ H D I (i D σ H q)
def e_.imp{e:List Stmt}(h:e_ X e t)(i:∀D σ H,t' D σ H->t D σ H):e_ X e t':=λpins s σ H D I q=>h pins s σ H D I (i D σ H q)
variable{G:Gd}{W W1:Addr->Prop}{H0 H H1:Hp}{Dn:eY}{env':DE0}{fl:Fl}
protected def cT.step(st:Step W H W1 H1)(h:cT X G H0 W H Dn env' fl):cT X G H0 W1 H1 Dn env' fl:=by
 cases fl with
 |nx=>exact λW' D H' s o=>h W' D H' (st.trans s) o |bk=>exact λW' D H' s o=>h W' D H' (st.trans s) o |ct=>exact λW' D H' s o=>h W' D H' (st.trans s) o |rt d=>exact λW' D v H' s o=>h W' D v H' (st.trans s) o |rf ds=>exact h |r2 dss=>exact h |xc c=>exact λW' D H' C z s o=>h W' D H' C z (st.trans s) o |ra k ps=>exact λW' D p H' s o=>h W' D p H' (st.trans s) o
def Fl.out:Fl->Bool | .rt _=>true | .rf _=>true | .r2 _=>true | .xc _=>true | .ra _ _=>true |_=>false
variable{Dn':eY}
protected def cT.go(I:fl.out=true)(h:cT X G H0 W H Dn env' fl)(e:Dn'.rt=Dn.rt)(st:Step W H W1 H1):cT X G H0 W1 H1 Dn' env' fl:=by
 cases fl with
 |nx=>cases I
 |bk=>cases I
 |ct=>cases I
 |rt d=>intro W' D v H' s o r;rw[e];exact h W' D v H' (st.trans s) o r
 |rf ds=>intro v vs H' s n l r;rw[e];exact h v vs H' s n l r
 |r2 dss=>intro v ls H' s n;rw[e];exact h v ls H' s n
 |xc c=>exact λW' D H' C z s o=>h W' D H' C z (st.trans s) o |ra k ps=>intro W' D p H' s o r;rw[e];exact h W' D p H' (st.trans s) o r
@[simp] def aT:FS:=λe=>↑(.nx,e)
@[simp] def aE(g h:FS):FS:=λe=>(g e).bind λr=>match r.1 with | .nx=>h r.2 |_=>↑r
@[simp] def aJ(i:Nat)(f:FE):FS:=λe=>(f e).map λr=>(.nx,r.2.set i ⇑r.1)
@[simp] def dR(i:Nat)(f:FA):FS:=λe=>(f e).map λr=>(.nx,r.2.set i ↑(.ow r.1))
@[simp] def aM(f:FE):FS:=λe=>(f e).map λr=>(.rt r.1,r.2)
@[simp] def yj(f:FA):FS:=λe=>(f e).map λr=>(.rf r.1,r.2)
@[simp] def bL(c:FT)(g h:FS):FS:=λe=>(c e).bind λr=>if r.1=true then g r.2 else h r.2
@[simp] def jx(f:FE):FS:=λe=>(f e).map λr=>(.nx,r.2)
@[simp] def vf:FS:=λ_=>none
def cM(i:Nat)(g:FS):fh->DE0->Option (Fl×DE0)
 | [],e=>↑(.nx,e) |d::r,e=>(g (e.set i ⇑d)).bind λq=>match q.1 with | .nx=>cM i g r q.2 | .ct=>cM i g r q.2 | .bk=>↑(.nx,q.2) | .rt d=>↑(.rt d,q.2) | .rf ds=>↑(.rf ds,q.2) | .r2 ds=>↑(.r2 ds,q.2) | .xc c=>↑(.xc c,q.2) | .ra k ps=>↑(.ra k ps,q.2)
@[simp] def dH(i:Nat)(fi:FI)(g:FS):FS:=λe=>(fi e).bind λr=>cM i g r.1 r.2
def yy(c:FT)(g:FS):Nat->DE0->Option (Fl×DE0)
 |0,_=>none |n+1,e=>(c e).bind λr=>if r.1=true then(g r.2).bind λq=>match q.1 with | .nx=>yy c g n q.2 | .ct=>yy c g n q.2 | .bk=>↑(.nx,q.2) | .rt d=>↑(.rt d,q.2) | .rf ds=>↑(.rf ds,q.2) | .r2 ds=>↑(.r2 ds,q.2) | .xc c=>↑(.xc c,q.2) | .ra k ps=>↑(.ra k ps,q.2) else ↑(.nx,r.2)
def i9  : dU X G H0 [] aT:=⟨vF.imp λDn σ H D=>by
 obtain⟨W,env,fl,env',ok,q,k⟩:=D;cases q;exact k W σ H Step.refl ok⟩
variable{s:Stmt}{ss:List Stmt}{u v:FS}
def d9(h1:dS X G H0 s u)(h2:dU X G H0 ss v):dU X G H0 (s::ss) (aE u v):=⟨(vG h1.out h2.out).imp λDn σ H S=>by
 obtain⟨W,env,fl,env',ok,q,k⟩:=S;cases e1:u env with
 |none=>simp[e1] at q |some r =>
   obtain⟨D,env1⟩:=r;refine⟨W,env,D,env1,ok,e1,?_⟩;cases D with
   |nx =>
     have q:v env1=↑(fl,env'):=by simpa[aE,e1] using q
     exact λW1 U H1 V I=>⟨W1,env1,fl,env',I,q,k.step V⟩
   |bk =>
     have q:↑(Fl.bk,env1)=↑(fl,env'):=by simpa[aE,e1] using q
     cases q;exact k
   |ct =>
     have q:↑(Fl.ct,env1)=↑(fl,env'):=by simpa[aE,e1] using q
     cases q;exact k
   |rt d =>
     have q:↑(Fl.rt d,env1)=↑(fl,env'):=by simpa[aE,e1] using q
     cases q;exact k
   |rf d =>
     have q:↑(Fl.rf d,env1)=↑(fl,env'):=by simpa[aE,e1] using q
     cases q;exact k
   |r2 d =>
     have q:↑(Fl.r2 d,env1)=↑(fl,env'):=by simpa[aE,e1] using q
     cases q;exact k
   |xc d =>
     have q:↑(Fl.xc d,env1)=↑(fl,env'):=by simpa[aE,e1] using q
     cases q;exact k
   |ra d d' =>
     have q:↑(Fl.ra d d',env1)=↑(fl,env'):=by simpa[aE,e1] using q
     cases q;exact k⟩
def d8(h:dS X G H0 s u):dU X G H0 [s] u:=⟨vH h.out⟩
variable{f:FE}{pos p':Pos}{x:Str}{i:Nat}
def zZ(U:X.N.Nodup)(hi:‹X.N[i]?=↑x›)(V:aN X G H0 e f)(ps:PS X (.Assign [.Name x p'] e pos) (eD (tD X.K G H0 f) (ki i))):dS X G H0 (.Assign [.Name x p'] e pos) (aJ i f):=⟨ps.imp λDn σ H I=>by
 obtain⟨W,env,fl,env',ok,q,k⟩:=I;cases e1:f env with
 |none=>simp[e1] at q |some r =>
   have q:↑(Fl.nx,r.2.set i ↑(Sl.sh r.1))=↑(fl,env'):=by simpa[aJ,e1] using q
   cases q;exact⟨W,env,_,_,ok,e1,λW1 Y H1 S D p1=>k W1 _ H1 S (D.set p1)⟩⟩
variable{F:FA}
def qt(ps:PS X (.Assign [.Name x p'] e pos) (eD (gD X.K G H0 F) (ki i))):dS X G H0 (.Assign [.Name x p'] e pos) (dR i F):=⟨ps.imp λDn σ H S=>by
 obtain⟨W,env,fl,env',ok,q,k⟩:=S;cases e1:F env with
 |none=>simp[e1] at q |some r =>
   have q:↑(Fl.nx,r.2.set i ↑(Sl.ow r.1))=↑(fl,env'):=by simpa[dR,e1] using q
   cases q;exact⟨W,env,_,_,ok,e1,λW1 l vs H1 U D I V Y a=>k (b_ W1 l) _ H1 U (I.setO (.inr rfl) Y a (D.noOwn V))⟩⟩
def gl(I:aN X G H0 e f):dS X G H0 (.Return ↑e pos) (aM f):=⟨(ze I.out).imp λDn σ H S=>by
 obtain⟨W,env,fl,env',ok,q,k⟩:=S;cases e1:f env with
 |none=>simp[e1] at q |some r =>
   have q:↑(Fl.rt r.1,r.2)=↑(fl,env'):=by simpa[aM,e1] using q
   cases q;exact⟨W,env,_,_,ok,e1,λW1 U H1 V D p1=>k W1 σ U H1 V D p1⟩⟩
def z_(S:fX X G H0 e F):dS X G H0 (.Return ↑e pos) (yj F):=⟨(ze S.out).imp λDn σ H U=>by
 obtain⟨W,env,fl,env',ok,q,k⟩:=U;cases e1:F env with
 |none=>simp[e1] at q |some r =>
   have q:↑(Fl.rf r.1,r.2)=↑(fl,env'):=by simpa[yj,e1] using q
   cases q;exact⟨W,env,_,_,ok,e1,λW1 l vs H1 b D I c V Y=>k l vs H1 D.stay (I.wl l (.inr rfl)).1 V (Y.mono (λ_ _ h=>h) λa us o h=>⟨⟨o.1,λz=>o.2 (.inr z)⟩,h⟩)⟩⟩
variable{c:Expr}{p:FT}
def i8{I S:List Stmt}(V:eR X G H0 c p)(Y:dU X G H0 I u)(a:dU X G H0 S v):dS X G H0 (.If c I S pos) (bL p u v):=⟨(vJ V.out Y.out a.out).imp λDn σ H b=>by
 obtain⟨W,env,fl,env',ok,q,k⟩:=b;cases e1:p env with
 |none=>simp[e1] at q |some r =>
   obtain⟨t,env1⟩:=r;refine⟨W,env,t,env1,ok,e1,λW1 H1 U D=>?_⟩;cases t with
   |true=>rw[am rfl];exact⟨W1,env1,fl,env',D,by simpa[bL,e1] using q,k.step U⟩ |false=>rw[b3 b7];exact⟨W1,env1,fl,env',D,by simpa[bL,e1] using q,k.step U⟩⟩
def mJ  : dS X G H0 s vf:=⟨vL.imp λDn σ H ⟨W,env,fl,env',ok,q,k⟩=>by cases q⟩
def kr(I:aN X G H0 e f)(S:‹swapsWith e none pos.line X.env=pure false›):dS X G H0 (.Expr e pos) (jx f):=⟨(o_ I.out S).imp λDn σ H U=>by
 obtain⟨W,env,fl,env',ok,q,k⟩:=U;cases e1:f env with
 |none=>simp[e1] at q |some r =>
   have q:↑(Fl.nx,r.2)=↑(fl,env'):=by simpa[jx,e1] using q
   cases q;exact⟨W,env,_,_,ok,e1,λW1 Y H1 V D p1=>k W1 σ H1 V D⟩⟩
structure rd (K:e5) (G:Gd) (J:It) (W:Addr->Prop) (H:Hp) (ds:fh):Prop where
 go:∀W' H' (i:Nat) d,Step W H W' H'->ds[i]?=↑d->J.go i H'/\∀x H'',J.yld i H' x H''->aU H' H''/\aQ K H'' (Ow G W') d x
 stop:∀W' H',Step W H W' H'->J.stop ds.length H'
def Aa(K:e5)(G:Gd)(H0:Hp)(f:FI):TI:=λσ H R=>DP K G H0 f (λW env ds env' =>
 ∀W' J H',Step W H W' H'->Ok K G H0 W' env' σ H'->rd K G J W' H' ds->R J H') σ H
structure ka (X:Cx) (G:Gd) (H0:Hp) (tg:Expr) (e:Expr) (f:FI):Prop where
 out:PI X tg e (Aa X.K G H0 f)
variable{tg a:Expr}
def kS.dj{f:FI}(h:iS X G H0 tg a f):ka X G H0 tg a f:=⟨h.out.imp λσ H R z=>by
 obtain⟨W,env,ds,env',ok,q,k⟩:=z;exact⟨W,env,ds,env',ok,q,λW' J H' st D w=>k W' J H' st D ⟨λI H2 i d s e=>⟨(w.go I H2 i d s e).1,λx S y=>by
  obtain⟨U,r⟩:=(w.go I H2 i d s e).2 x S y;cases U;exact⟨aU.refl _,r⟩⟩,w.stop⟩⟩⟩
def kb(k:DE0->Option (Fl×DE0))(q:Fl×DE0):Option (Fl×DE0):=match q.1 with | .nx=>k q.2 | .ct=>k q.2 | .bk=>↑(.nx,q.2) | .rt d=>↑(.rt d,q.2) | .rf ds=>↑(.rf ds,q.2) | .r2 ds=>↑(.r2 ds,q.2) | .xc c=>↑(.xc c,q.2) | .ra k ps=>↑(.ra k ps,q.2)
variable{W':Addr->Prop}{H':Hp}{N:d3}
def cT.loop{V:Fl}{I:DE0}{N:St->Hp->Prop}{a:DE0->Option (Fl×DE0)}(k:cT X G H0 W H Dn env' fl)(st:Step W H W' H')(Y:kb a (V,I)=↑(fl,env'))(b:∀U D H2,Step W' H' U H2->Ok X.K G H0 U I D H2->a I=↑(fl,env')->N D H2) :
  cT X G H0 W' H' { Dn with nx:=N,ct:=N,bk:=Dn.nx } I V:=by
 cases V with
 |nx=>exact λU D H2 s2 S=>b U D H2 s2 S Y |ct=>exact λU D H2 s2 S=>b U D H2 s2 S Y |bk=>cases Y;exact λU D H2 s2 S=>k U D H2 (st.trans s2) S
 |_=>cases Y;exact k.go rfl rfl st
inductive iU (X:Cx) (G:Gd) (H0:Hp) (W1:Addr->Prop) (H1:Hp) (ds:fh) (L:fh->DE0->Option (Fl×DE0)) (r:Option (Fl×DE0)) (n m:Nat) (σ:St) (H:Hp):Prop
 |mk (W:Addr->Prop) (env:DE0) (hm:m=ds.length-n) (hn:n<=ds.length) (st:Step W1 H1 W H) (ok:Ok X.K G H0 W env σ H) (ef:L (ds.drop n) env=r):iU X G H0 W1 H1 ds L r n m σ H
variable{g:FE}{body:List Stmt}{fi:FI}{b:Expr}{q:FT}
theorem ri{g:TG}{b:D->DE0->Option DE0}{L:fh->DE0->Option (Fl×DE0)}(hi:ka X G H0 tg a fi)(i:PG X tg g)(F:dU X G H0 body u)(M:∀ {W env env' σ H d x} {Q:St->Hp->Prop},Ok X.K G H0 W env σ H->aQ X.K H (Ow G W) d x->b d env=↑env'->(∀S,Ok X.K G H0 W env' S H->Q S H)->g x σ H Q)(N:∀e,L [] e=↑(.nx,e))(h1:∀d r e,L (d::r) e=(b d e).bind λe'=>(u e').bind λq=>kb (L r) q)(O:PassesOwn (model X.prog X.w) X.A X.env X.xe)(P:X.calm=true)(R:∀x,foldedSetIterable a X.env x=pure x):dS X G H0 (.For tg a body [] pos) (λe=>(fi e).bind λr=>L r.1 r.2):=⟨(wa O P hi.out i F.out R).imp λDn σ H z=>by
 obtain⟨W,env,fl,env',ok,q,k⟩:=z;obtain⟨⟨ds,env1⟩,T,q⟩:=b0.mp q;refine⟨W,env,ds,env1,ok,T,λW1 J H1 t j v=>⟨iU X G H0 W1 H1 ds L ↑(fl,env'),⟨ds.length,W1,env1,rfl,gh _,Step.refl,j,q⟩,λn m S H' z=>?_⟩⟩;obtain⟨W',B,Z,hn,st,Y,U⟩:=z;subst Z;by_cases I:n<ds.length
 ·rw[iw I,h1] at U
  obtain⟨c,e2,U⟩:=b0.mp U;obtain⟨⟨l,V⟩,e3,U⟩:=b0.mp U;obtain⟨i,hy⟩:=v.go W' H' n ds[n] st (au I);refine .inr ⟨i,λf H2=>∃C,C<ds.length-n/\iU X G H0 W1 H1 ds L ↑(fl,env') (n+1) C f H2,λ_ _ h=>h,λx o y=>?_⟩;obtain⟨E,rx⟩:=hy x o y;have sn:=st.trans (Step.same E);exact M (Y.same E) rx e2 λaa p=>⟨W',c,l,V,p,e3,k.loop (t.trans sn) U λW2 f H2 s2 s e=>⟨_,Nat.sub_succ_lt_self _ _ I,W2,V,rfl,I,sn.trans s2,s,e⟩⟩
 ·cases nq hn (gn I)
  rw[List.drop_length,N] at U;cases U;exact .inl ⟨v.stop W' H' st,k W' S H' (t.trans st) Y⟩⟩
variable{px:Pos}
def m7{tg:Str}(hi:iS X G H0 (.Name tg px) a fi)(D:PG X (.Name tg px) (ki i))(I:dU X G H0 body u)(S:PassesOwn (model X.prog X.w) X.A X.env X.xe:=by passes_own)(U:‹X.calm=true›)(V:∀x,foldedSetIterable a X.env x=pure x:=by intro _;rfl):dS X G H0 (.For (.Name tg px) a body [] pos) (dH i fi u) :=
 ri (b:=λd e=>↑(e.set i ⇑d)) (L:=cM i u) hi.dj D I (λok r e k=>by cases e;exact k _ (ok.set r)) (λ_=>rfl) (λ_ _ _=>rfl) S U V
inductive mK (X:Cx) (G:Gd) (H0:Hp) (W1:Addr->Prop) (H1:Hp) (L:Nat->DE0->Option (Fl×DE0)) (r:Option (Fl×DE0)) (m:Nat) (σ:St) (H:Hp):Prop
 |mk (W:Addr->Prop) (env:DE0) (st:Step W1 H1 W H) (ok:Ok X.K G H0 W env σ H) (ef:L m env=r):mK X G H0 W1 H1 L r m σ H
variable{n:Nat}
def kf(h:n<2 ^ 20):n<sizeLine:=az h (by rw[fb];decide)
@[simp] def yi(d:D)(e:DE0)(i:Nat):Option (D×DE0):=match e[i]? with
 |some ↑(.ow ds)=>if cE (ds.length+1) then ↑(.non,e.set i ↑(.ow (ds++[d]))) else none
 |_=>none
@[simp] def q9(i:Nat)(f:FE):FE:=λe=>match e[i]? with
 |some ↑(.ow _)=>(f e).bind λr=>yi r.1 r.2 i
 |_=>none
variable{Nn Cn:d3}{p1:Pos}
def rk(m:aN X G H0 a f)(an:bI Nn Cn X)(Y:‹Nn[i]?=↑x›)(D:‹attributeBase (.Name x p') "append" X.env (eval (.Name x p') X.env)=eval (.Name x p') X.env›)(S:((backTo pos (starEach [a] X.env)).all (λx=>!x.1) && (backToKw pos (keywordEach [] X.env)).all (λx=>x.1.isSome)
   && decide ([a].length+([]:List Keyword).length+(if ([]:List Keyword).isEmpty then 0 else 1)<30))=true:=by rfl)(I:‹(p1.endLine==pos.line)=true›)(g:‹starEach [a] X.env=(false,eval a X.env)::starEach [] X.env›) :
  aN X G H0 (.Call (.Attribute (.Name x p') "append" p1) [a] [] pos) (q9 i f):=⟨(u8 gg td sy qB ((an.a Y).pe) (j6 m.out lx g) D S I g rfl).imp λσ H Q n=>by
 obtain⟨W,env,d,env',ok,q,k⟩:=n;unfold q9 at q;split at q;case h_2=>cases q
 rename_i o b;obtain⟨v,c,l,p,rfl,s,e,_⟩:=ok.slot i _ b;cases e1:f env with
 |none=>rw[e1] at q;cases q
 |some r =>
   obtain⟨t,env1⟩:=r;rw[e1,ae] at q;unfold yi at q;split at q;case h_2=>cases q
   rename_i ds h;split at q;case isFalse=>cases q
   rename_i U;cases q;refine⟨_,c,.inl ⟨rfl,_,.inl (.inl e)⟩,W,env,t,env1,ok,e1,λW1 u H1 w V y=>?_⟩;obtain⟨E,j,F,vs,z,J,A,r⟩:=V.slot i _ h;rw[c] at j;cases j;cases z;obtain⟨B,C⟩:=V.turn h c (r.append (.cons y .nil));exact⟨l,vs,u,rfl,rfl,A,by rw[<-r.length];exact kf (Nat.lt_of_succ_le U),k W1 _ _ (w.trans C) B .non⟩⟩
@[simp] def yh(d k:D)(e:DE0)(i:Nat):Option (Fl×DE0):=match k,e[i]? with
 | .int k,↑↑(.ow ds)=>(eQ ds.length k).map λj=>(.nx,e.set i ↑(.ow (ds.set j d)))
 |_,_=>none
@[simp] def tx(i:Nat)(D I:FE):FS:=λe=>(I e).bind λr=>match r.2[i]? with
 |some ↑(.ow _)=>(D r.2).bind λq=>yh r.1 q.1 q.2 i
 |_=>none
def Ab(o:aN X G H0 b g)(p:aN X G H0 e f)(an:bI Nn Cn X)(V:‹Nn[i]?=↑x›)(s:‹swapsWithSole [.Subscript (.Name x p') b p1] e pos.line X.env=pure false›)(t:‹swappedStores [.Subscript (.Name x p') b p1] e X.env=pure none›)(h1:‹(assignEach [.Subscript (.Name x p') b p1] X.env).map (·.2)=[assign (.Subscript (.Name x p') b p1) X.env]›)(I:∀v,assign (.Subscript (.Name x p') b p1) X.env v=(do
   let ov <-holding [v] (eval (.Name x p') X.env);let iv <-holding [v,ov] (eval b X.env)
   standAt p1
   holding [v,ov,iv] (setItem ov iv v)
   release [v,ov,iv] []):=by intro _;rfl) :
  dS X G H0 (.Assign [.Subscript (.Name x p') b p1] e pos) (tx i g f):=⟨(vQ p.out (vP ((an.a V).pe) o.out lT I) s t h1).imp λDn σ H u=>by
 obtain⟨W,env,fl,env',ok,q,k⟩:=u;cases e1:f env with
 |none=>simp[e1] at q |some r =>
   obtain⟨w,env1⟩:=r;simp only[tx,e1,ae] at q;split at q;case h_2=>cases q
   rename_i y Y;cases e2:g env1 with
   |none=>rw[e2] at q;cases q
   |some c =>
     obtain⟨N,S⟩:=c;rw[e2,ae] at q;unfold yh at q;dsimp only at q;split at q;case h_2=>cases q
     rename_i h ds m;cases e3:eQ ds.length h with
     |none=>rw[e3] at q;cases q
     |some j =>
       rw[e3] at q;cases q;refine⟨W,env,w,env1,ok,e1,λW1 O H1 z D A=>?_⟩;obtain⟨v,d,l,B,rfl,C,E,_⟩:=D.slot i _ Y;refine⟨_,d,W1,env1,_,S,D,e2,λF P H2 s2 U c=>?_⟩;obtain⟨Q,n,R,vs,J,T,K,r⟩:=U.slot i _ m;rw[d] at n;cases n;cases J;obtain⟨L,M⟩:=U.turn m d (aF.set (D.rep s2 A) j r);exact⟨l,vs,h,j,rfl,c.int_,K,by rw[<-r.length];exact e3,k F _ _ ((z.trans s2).trans M) L⟩⟩
def jz(n:Nat)(ds:fh):DE0:=ds.map (λd=>↑(Sl.sh d))++List.replicate (n-ds.length) none
def aY(n ar:Nat)(g:FS):fh->fk:=λds=>if ds.length=ar then(match g (jz n ds) with |some (.rt d,_)=>↑d |some (.nx,_)=>some .non |_=>none) else none
def fQ(n ar:Nat)(g:FS):fh->Option fh:=λds=>if ds.length=ar then(match g (jz n ds) with |some (.rf d,_)=>↑d |_=>none) else none
def wn:∀ {n:Nat} {ds:fh} {i:Nat} {s:Sl},(jz n ds)[i]?=↑↑s->∃d,ds[i]?=↑d/\s=.sh d:=λ{n ds i s} h=>by
 unfold jz at h;by_cases hi:i<ds.length
 ·rw[ao (by simpa using hi),bh] at h
  cases e:ds[i]? with
  |none=>rw[e] at h;cases h
  |some d=>rw[e] at h;cases h;exact⟨d,rfl,rfl⟩
 ·rw[bj (by simpa using hi),ur] at h
  split at h <;> cases h
variable{ds:fh}{vs:fe}{K:e5}
def rh{O:Addr->Prop}(r:aF K H O ds vs):Ok K (gd λa=>O a\/H a=none) H cA (jz N.length ds) (i4 N vs) H:=by
 refine⟨aU.refl _,λa z=>.inr z,λl z=>z.elim,λi s e=>?_,λi j U s2 V Y a D _ _ _ o _=>?_,?_⟩
 ·obtain⟨d,D,rfl⟩:=wn e
  obtain⟨v,I,S⟩:=r.get D;refine⟨v,?_,S.mono (λ_ _ h=>h) λa us o h=>⟨⟨.inl o,λz=>z⟩,h⟩⟩;unfold i4;rw[ao (by simpa using(ah.mp I).1),bh,I];rfl
 ·obtain⟨d,_,z⟩:=wn D
  subst z;exact o.elim
 ·unfold jz i4
  rw[bd,bd,af,af,jv,jv,r.length]
variable{f:Addr}{CX:fN}{qual:Str}{st:Stmt}{fd:FuncData}{ps:d3}{k ar:Nat}{P:Program}{w:World}{mg:Str->eb}{base:Heap}
theorem kv{g:FS}(F:fA K x qual st f fd)(S:mq N ps (d4 st))(Y:n=N.length)(b:ar=ps.length)(D:∀(cdv:Value) (A:Around) (outer:ep) (s:Shared) (H:Hp) (E:XK) (G:Gd) (H0:Hp),aP k (A.deeper (envOfC qual (d4 st) s.heap.objs.size f cdv)) ->
   dU (aX CX P w K mg base N qual (d4 st) f cdv A outer s H E).nox G H0 (jg st) g):bD P w K mg base CX (k+1) f fd ps (dB K (aY n ar g)):=by
 subst Y b;refine F.okC S (λvs H Q E h=>?_) (λcdv A outer s H vs Q E c h=>?_)
 ·obtain⟨O,ds,d,r,e,_⟩:=h
  rw[<-r.length];unfold aY at e;split at e
  ·assumption
  ·cases e
 ·obtain⟨O,ds,d,r,e,k⟩:=h
  refine⟨_,(D cdv A outer s H E (gd λa=>O a\/H a=none) H c).out,?_⟩;unfold aY at e;split at e;case isFalse=>cases e
  split at e
  ·rename_i d' env' U
   cases e;exact⟨cA,_,_,env',rh r,U,λW' V v H' st I i=>k v H' I.stay (i.mono (λ_ _ h=>h) λa us o h=>⟨o.1,h⟩)⟩
  ·rename_i env' U
   cases e;exact⟨cA,_,_,env',rh r,U,λW' V H' st I=>k .non H' I.stay .non⟩
  ·cases e
theorem mL{g:FS}(F:fA K x qual st f fd)(S:mq N ps (d4 st))(I:n=N.length)(U:ar=ps.length)(D:∀(cdv:Value) (A:Around) (outer:ep) (s:Shared) (H:Hp) (E:XK) (G:Gd) (H0:Hp),aP k (A.deeper (envOfC qual (d4 st) s.heap.objs.size f cdv)) ->
   dU (aX CX P w K mg base N qual (d4 st) f cdv A outer s H E).nox G H0 (jg st) g):bD P w K mg base CX (k+1) f fd ps (jD K (fQ n ar g)):=by
 subst I U;refine F.okC S (λvs H Q E h=>?_) (λcdv A outer s H vs Q E V h=>?_)
 ·obtain⟨O,ds,d,r,e,_⟩:=h
  rw[<-r.length];unfold fQ at e;split at e
  ·assumption
  ·cases e
 ·obtain⟨O,ds,d,r,e,k⟩:=h
  refine⟨_,(D cdv A outer s H E (gd λa=>O a\/H a=none) H V).out,?_⟩;unfold fQ at e;split at e;case isFalse=>cases e
  split at e
  ·rename_i d' env' Y
   cases e;exact⟨cA,_,_,env',rh r,Y,λl vs' H' b c i j=>k l vs' H' b c i j⟩
  ·cases e
def ve(K:e5):Sp:=λvs H Q _=>∃(a:Addr) (ns:ei),vs=[.ref a]/\cK K H a (ns.map V.int)/\ns.length<=63/\∀H',Q (.bl true) H'
theorem Ac{m:fh->fk}(F:bD P w K mg base CX k f fd ps (dB K m))(h:∀ns:ei,ns.length<=63->m [.lst (ns.map D.int)]=↑(.bl true)) :
  bD P w K mg base CX k f fd ps (ve K):=F.imp λvs H Q E I=>by
 obtain⟨a,ns,e,S,U,q⟩:=I;subst e;exact⟨λ_=>True,[.lst (ns.map D.int)],.bl true,.cons (S.elim (λz=>.lst trivial z (mD ns)) λz=>.klst z (mD ns)) .nil,h ns U,λv H' _ r=>by rw[r.bl_];exact q H'⟩
def mM:∀σ H Q,tD X.K G H0 (aH F) σ H Q->gD X.K G H0 F σ H Q:=λσ H Q V=>by
 obtain⟨W,env,d,env',ok,q,k⟩:=V;cases e1:F env with
 |none=>simp[e1] at q |some r =>
   have q:↑(D.lst r.1,r.2)=↑(d,env'):=by simpa[aH,e1] using q
   cases q;refine⟨W,env,_,_,ok,e1,λW1 l vs H1 U I S Y b c=>k W1 _ H1 ⟨U.keep,λa z=>U.ws a (.inl z)⟩ I (.lst ⟨I.good l (S.wl l (.inr rfl)).1,Y⟩ (.inl b) (c.mono (λ_ _ h=>h) λa us o h=>⟨⟨o.1,λz=>o.2 (.inl z)⟩,h⟩))⟩
variable{f:FE}
def il(I:cS Nn X)(S:aN X G H0 e f)(D:‹Nn[i]?=↑x›)(U:‹swapsWith e ↑(.Name x p') pos.line X.env=pure false›):dS X G H0 (.Assign [.Name x p'] e pos) (aJ i f):=zZ (I.t D).nd (I.t D).n S (zd (I.t D).nd (I.t D).n (I.t D).l S.out U (I.t D).f)
def rl(ps:PS X (.Assign [.Name x p'] e pos) (eD (gD X.K G H0 F) (ki i))):dS X G H0 (.Assign [.Name x p'] e pos) (aJ i (aH F)):=⟨(PS.imp ps (t':=eD (tD X.K G H0 (aH F)) (ki i)) λDn σ H h=>mM σ H _ h).imp λDn σ H I=>by
 obtain⟨W,env,fl,env',ok,q,k⟩:=I;cases e1:aH F env with
 |none=>simp only[aJ,e1,jn] at q;cases q
 |some r =>
   have q:↑(Fl.nx,r.2.set i ↑(Sl.sh r.1))=↑(fl,env'):=by simpa only[aJ,e1,bi] using q
   cases q;exact⟨W,env,_,_,ok,e1,λW1 U H1 S D p1=>k W1 _ H1 S (D.set p1)⟩⟩
variable{y:Str}{ix:ee}{sc:Scope}{spos:Pos}{te:FE}
def wd{b:Pos}(an:bI Nn Cn X)(U:cS Nn X)(hi:iS X G H0 (.Name x px) a fi)(V:∀cl C s₂ H₂ fp G H0,bI (x::(a_ Nn ix)) (a_ Nn ix) (ir X x (a_ Nn ix) sc cl C s₂ H₂ fp)->aN (ir X x (a_ Nn ix) sc cl C s₂ H₂ fp) G H0 e te)(S:nz Nn Cn ix x sc=true:=by decide +kernel)(c:‹X.calm=true›)(I:‹Nn[i]?=↑y›)(Y:‹swapsWith (.ListComp e [⟨.Name x px,a,[],0⟩] sc pos) ↑(.Name y b) spos.line X.env=pure true›)(d:∀v,foldedSetIterable a X.env v=pure v:=by intro _;rfl) :
  PS X (.Assign [.Name y b] (.ListComp e [⟨.Name x px,a,[],0⟩] sc pos) spos) (eD (gD X.K G H0 (ii fi ix cB te)) (ki i)) :=
 (zt (ub an S) (λ_ _ _ _ _ _ _ _ _=>c) (U.t I).nd (U.t I).n (U.t I).l hi.out (λcl C s₂ H₂ fp _=>yk (X:=X) rfl) (λcl C s₂ H₂ fp _=>hI (X:=X) rfl (λG H0=>V cl C s₂ H₂ fp G H0 (rn S))) Y (U.t I).f d).imp λD σ H h=>vg σ H _ h
def Ad{Cm:Cx->Prop}{j:Pos}{tt:FT}{V:Expr}(k:∀cl C s₂ H₂ fp pins σ,Inv X pins σ H₂ s₂->(∀b∈fp,cG X pins H₂ b)->Cm (ir X x (a_ Nn ix) sc cl C s₂ H₂ fp))(an:bI Nn Cn X)(U:cS Nn X)(hi:kS Cm X G H0 (.Name x px) a fi)(Y:∀cl C s₂ H₂ fp G H0,Cm (ir X x (a_ Nn ix) sc cl C s₂ H₂ fp)->bI (x::(a_ Nn ix)) (a_ Nn ix) (ir X x (a_ Nn ix) sc cl C s₂ H₂ fp)->eR (ir X x (a_ Nn ix) sc cl C s₂ H₂ fp) G H0 V tt)(c:∀cl C s₂ H₂ fp G H0,Cm (ir X x (a_ Nn ix) sc cl C s₂ H₂ fp)->bI (x::(a_ Nn ix)) (a_ Nn ix) (ir X x (a_ Nn ix) sc cl C s₂ H₂ fp)->aN (ir X x (a_ Nn ix) sc cl C s₂ H₂ fp) G H0 e te)(S:nz Nn Cn ix x sc=true:=by decide +kernel)(I:‹Nn[i]?=↑y›)(d:‹swapsWith (.ListComp e [⟨.Name x px,a,[V],0⟩] sc pos) ↑(.Name y j) spos.line X.env=pure true›)(m:∀v,foldedSetIterable a X.env v=pure v:=by intro _;rfl) :
  PS X (.Assign [.Name y j] (.ListComp e [⟨.Name x px,a,[V],0⟩] sc pos) spos) (eD (gD X.K G H0 (ii fi ix tt te)) (ki i)) :=
 (zt (ub an S) k (U.t I).nd (U.t I).n (U.t I).l hi.out (λcl C s₂ H₂ fp g=>j_ (X:=X) rfl (λG H0=>Y cl C s₂ H₂ fp G H0 g (rn S))) (λcl C s₂ H₂ fp g=>hI (X:=X) rfl (λG H0=>c cl C s₂ H₂ fp G H0 g (rn S))) d (U.t I).f m).imp λD σ H h=>vg σ H _ h
abbrev kU:=DE0->Option (List fh×DE0)
def mO(K:e5)(G:Gd)(H0:Hp)(f:kU):TE:=λσ H Q=>DP K G H0 f (λW env dss env' =>
 ∀W' l H',Step W H W' H'->Ok K G H0 W' env' σ H'->cJ K G W' H' (.o2 dss) (.ref l) ->
  (∀(j:Nat) (s:Sl) (v:V) (a:Addr),env'[j]?=↑↑s->σ[j]?=↑↑v->aV H' (.o2 dss) (.ref l) a->¬aV H' s v a)->Q (.ref l) H') σ H
structure Ae (X:Cx) (G:Gd) (H0:Hp) (e:Expr) (f:kU):Prop where
 out:PE X e (mO X.K G H0 f)
@[simp] def rv(i:Nat)(f:kU):FS:=λe=>(f e).map λr=>(.nx,r.2.set i ↑(.o2 r.1))
def vd(te:FA)(base:DE0):fh->Option (List fh)
 | []=>↑[] |d::r=>(te (⇑d::base)).bind λv=>(vd te base r).map (v.1::·)
def yx(fi:FI)(ix:ee)(te:FA):kU:=λe=>(fi e).bind λr=>if cE r.1.length then(vd te (ix.map λj=>fE (r.2.getD j none)) r.1).map λds=>(ds,r.2) else none
inductive Af (X:Cx) (G:Gd) (H0:Hp) (env:DE0) (σ:St) (W1:Addr->Prop) (H1:Hp) (ds:fh) (d:List fh) (f:fh->Option (List fh)) (i m:Nat) (H':Hp) (ys:fe):Prop
 |mk (Wi:Addr->Prop) (rest done:List fh) (ls:ed) (hm:m=ds.length-i) (hi:i<=ds.length) (sm:aU H1 H') (st:Step W1 H1 Wi H') (ok:Ok X.K G H0 Wi env σ H') (hy:ys=ls.map V.ref) (inn:mn X.K G Wi H' done ls) (nd:ls.Nodup) (fr:∀a∈ls,H1 a=none) (hd:done.length<=i) (ec:f (ds.drop i)=↑rest) (hz:d=done++rest):Af X G H0 env σ W1 H1 ds d f i m H' ys
def mP{env:Env}:∀ {names:List (Str×NameKind)} {x:Str},names.lookup x=some .globalImplicit ->
  (names.map λ(n,k)=>if (k==NameKind.free && env.scope.kind==.function && env.kindOf n==some .cell) then(n,NameKind.cell) else(n,k)).lookup x=some .globalImplicit
 | (n,k)::r,x,h=>by
   have D:=@mP env r x;show List.lookup x ((if (k==NameKind.free && env.scope.kind==.function && env.kindOf n==some .cell)=true then(n,NameKind.cell) else(n,k))::_)=_;cases hx:x==n with
   |true =>
     simp only[bw,hx] at h;cases h;simp[bw,hx]
   |false =>
     simp only[bw,hx] at h;by_cases I:(k==NameKind.free && env.scope.kind==.function && env.kindOf n==some .cell)=true
     ·rw[am I];simp only[bw,hx];exact D h
     ·rw[b3 I];simp only[bw,hx];exact D h
variable{s:Shared}{N':d3}{cl:List (Str×Addr)}{C:Addr}{fp:ed}
def mQ(h:sc.names.lookup x=some .globalImplicit):Gl (ir X y N' sc cl C s H fp) x:=mP h
def Ah:Ty "int" "int":=⟨by decide +kernel,by decide +kernel,by decide +kernel,by decide +kernel⟩
def Ai:Ty "bool" "bool":=⟨by decide +kernel,by decide +kernel,by decide +kernel,by decide +kernel⟩
def zc:Ty "str" "str":=⟨by decide +kernel,by decide +kernel,by decide +kernel,by decide +kernel⟩
def vm:Ty "list" "list":=⟨by decide +kernel,by decide +kernel,by decide +kernel,by decide +kernel⟩
def ue:Ty "tuple" "tuple":=⟨by decide +kernel,by decide +kernel,by decide +kernel,by decide +kernel⟩
def tw:List Nat->List D->DE0->DE0
 |i::ix,d::ds,e=>tw ix ds (e.set i ⇑d)
 |_,_,e=>e
def jE:ee->iB
 | []=>jJ |i::ix=>pa (ki i) (jE ix)
def kW(ix:ee)(d:D)(e:DE0):Option DE0:=match d with
 | .tup ds=>if ds.length=ix.length then ↑(tw ix ds e) else none
 |_=>none
def fR(ix:ee)(g:FS):fh->DE0->Option (Fl×DE0)
 | [],e=>↑(.nx,e) |d::r,e=>(kW ix d e).bind λI=>(g I).bind λq=>match q.1 with | .nx=>fR ix g r q.2 | .ct=>fR ix g r q.2 | .bk=>↑(.nx,q.2) | .rt d=>↑(.rt d,q.2) | .rf ds=>↑(.rf ds,q.2) | .r2 ds=>↑(.r2 ds,q.2) | .xc c=>↑(.xc c,q.2) | .ra k ps=>↑(.ra k ps,q.2)
@[simp] def yr(ix:ee)(fi:FI)(g:FS):FS:=λe=>(fi e).bind λr=>fR ix g r.1 r.2
def ry{K:e5}{W:Addr->Prop}{H:Hp}:∀(ix:ee) (ds:fh) (vs:fe) (env:DE0) (σ:St) (Q:St->Hp->Prop),Ok K G H0 W env σ H->aF K H (Ow G W) ds vs->ds.length=ix.length ->
  (∀I,Ok K G H0 W (tw ix ds env) I H->Q I H)->jE ix vs σ H Q
 | [],ds,vs,env,σ,Q,ok,r,hl,k=>by
   cases r with
   |nil=>exact⟨rfl,k σ ok⟩ |cons _ _=>cases hl
 |i::ix,ds,vs,env,σ,Q,ok,r,hl,k=>by
   cases r with
   |nil=>cases hl
   | @cons d v ds vs r0 r =>
     refine⟨v,vs,rfl,?_⟩;exact ry ix ds vs _ _ Q (ok.set r0) r (Nat.succ.inj hl) k
def Aj  : iC X [] (jE []):=vM
variable{es:er}
def rz(I:cS Nn X)(h:iC X es (jE ix))(D:‹Nn[i]?=↑x›)(S:‹(assignEach (.Name x pos::es) X.env).map (·.2)=assign (.Name x pos) X.env::(assignEach es X.env).map (·.2)›):iC X (.Name x pos::es) (jE (i::ix)):=vN (zw (I.t D).nd (I.t D).n (I.t D).l (I.t D).f) h S
def Ak(hi:ka X G H0 (.Tuple es k p1) a fi)(h:iC X es (jE ix))(U:dU X G H0 body u)(V:PassesOwn (model X.prog X.w) X.A X.env X.xe:=by passes_own)(I:‹X.calm=true›)(Y:‹(assignEach es X.env).length=ix.length›)(D:‹(assignEach es X.env).findIdx? (·.1)=none›)(c:∀x,foldedSetIterable a X.env x=pure x:=by intro _;rfl):dS X G H0 (.For (.Tuple es k p1) a body [] pos) (yr ix fi u) :=
 ri (b:=kW ix) (L:=fR ix u) hi (vO (n:=ix.length) I h Y D) U (λ{W env env' σ H d x Q} ok r e k=>by
  unfold kW at e;split at e;case h_2=>cases e
  split at e;case isFalse=>cases e
  rename_i S;cases e;cases r with
  | @tup a vs _ ht rr=>exact⟨a,vs,rfl,.inl (.inl ht),by rw[<-rr.length];exact S,ry ix _ vs _ σ _ ok rr S k⟩) (λ_=>rfl) (λ_ _ _=>rfl) V I c
variable{wr:ed}{pins:e9}{σ:St}{h2:Heap}
def Inv.tupled{tk:Nat}{T:Addr}{us:fc}(I:Inv X pins σ H s)(U:∀b∈wr,cG X pins H b)(hT:s.heap.objs.size<=T)(j:T∉wr)(k:∀b o,b∉wr->s.heap.get? b=↑o->h2.get? b=↑o)(a:h2.IsTuple T us)(d:aL vs us.toList)(f:vs.length<=sizeLine) :
  Inv X pins σ (aR H T (.tup vs)) { s with heap:=h2,toks:=tk }:=by
 have V:H T=none:=I.hok.fresh hT;have Y:∀b u,H b=↑u->b∉wr:=λb u e z=>by rw[(U b z).1] at e;cases e
 have neT:∀b o,s.heap.get? b=↑o->b≠T:=λb o e=>bo (az (bc e) hT);refine I.step (g':=s.gens) (d':=s.drawn) (ch:=wr) (λb D=>⟨(U b D).2.2.2.1,(U b D).2.1,(U b D).2.2.2.2.1,(U b D).2.2.2.2.2⟩) (λb o _ _ S e _=>k b o S e) (λb o _ _ S e _=>⟨o.slots,k b o S e⟩)
  (λb o _ e n=>by rw[e8 (neT b o e)];exact n) (λb o S e=>⟨o,k b o S e⟩) (λb xs e=>by rw[e8 (kt e V)];exact e) (λb o u e=>by rw[e8 (kt e V)];exact e)
  (λb ps e=>⟨#[],by rw[e8 (kt e V),e];simp⟩) (λm g=>?_) (λb u e=>?_) I.bare
 ·obtain⟨o,es,h,i,r⟩:=g
  exact⟨o,es,h,k _ o (λz=>(U _ z).2.1 rfl) i,r⟩
 ·by_cases D:b=T
  ·subst D
   rw[j9] at e;cases e;exact⟨f,us.toList,d,by rw[Array.toArray_toList];exact a⟩
  ·rw[e8 D] at e
   refine(I.hok b u e).stay (λc v S q=>k c v ?_ q) (λc q=>by rw[e8 (kt q V)];exact q) λc xs q=>by rw[e8 (kt q V)];exact q
   rcases S with z |z
   ·rw[z];exact Y b u e
   ·exact Y c _ z
def Inv.turnedL{tk:Nat}(I:Inv X pins σ H s)(S:∀b∈wr,cG X pins H b)(k:∀b o,b∉wr->s.heap.get? b=↑o->h2.get? b=↑o) :
  Inv X pins σ H { s with heap:=h2,toks:=tk }:=by
 have U:∀b u,H b=↑u->b∉wr:=λb u e z=>by rw[(S b z).1] at e;cases e
 refine I.step (g':=s.gens) (d':=s.drawn) (ch:=wr) (λb V=>⟨(S b V).2.2.2.1,(S b V).2.1,(S b V).2.2.2.2.1,(S b V).2.2.2.2.2⟩) (λb o _ _ D e _=>k b o D e) (λb o _ _ D e _=>⟨o.slots,k b o D e⟩)
  (λ_ _ _ _ n=>n) (λb o D e=>⟨o,k b o D e⟩) (λ_ _ e=>e) (λ_ _ _ e=>e) (λb ps e=>⟨#[],by rw[e];simp⟩) (λm Y=>?_) (λb u e=>?_) I.bare
 ·obtain⟨o,es,a,d,r⟩:=Y
  exact⟨o,es,a,k _ o (λz=>(S _ z).2.1 rfl) d,r⟩
 ·refine(I.hok b u e).stay (λc v D q=>k c v ?_ q) (λ_ q=>q) λ_ _ q=>q
  rcases D with z |z
  ·rw[z];exact U b u e
  ·exact U c _ z
def rA(go:Nat->Hp->Prop)(pr:Nat->Hp->fe->Prop)(D:Nat->Hp->Prop):It :=
 ⟨go,λi H x H'=>∃t vs,H t=none/\x=.ref t/\H'=aR H t (.tup vs)/\pr i H vs,D⟩
variable{it:Addr}
theorem Al{Y:Nat->Heap->Prop}{go:Nat->Hp->Prop}{pr:Nat->Hp->fe->Prop}{S:Nat->Hp->Prop}(mem:it∈fp)(obj:∀i h,Y i h->∀b∈fp,∃o,h.get? b=↑o/\∀v,o.data≠.cell v)(keep:∀i h h',Y i h->(∀b∈fp,∀o,h.get? b=↑o->h'.get? b=↑o)->Y i h')(B:∀(X:Cx),X.prog=P->X.w=w->X.K=K->X.A.handled=none->∀(i:Nat) (pins:e9) (s:Shared) (σ:St) (H:Hp),Inv X pins σ H s->(∀b∈fp,cG X pins H b)->Y i s.heap->(go i H\/S i H) ->
   ∃a wr n Pt St c j,WalksT P w X.A it a wr n Pt St c/\St j s.heap/\(∀b∈wr,b∈fp)/\(∀h,St (j+1) h->Y (i+1) h)/\(go i H->j<n)/\(S i H->j=n) /\
    (go i H->∀D,Pt j D->∃vs,aL vs D.toList/\vs.length<=sizeLine/\pr i H vs))(self:∀(A:Around) (i:Nat) (s:Shared) (Q:Value->Shared->Prop) (E:Value->Shared->Prop),Y i s.heap->Q (.ref it) s->wpAny (model P w) A (pyIter (.ref it)) Q E s) :
  gG P w K (.Tuple es k pos) (rA go pr S) fp it Y where
 mem:=mem
 obj:=obj
 keep:=keep
 item:=by
  intro X hP r t u i pins s σ H E I f st g;obtain⟨a,wr,n,Pt,St,c,j,W,x,d,l,lt,_,y⟩:=B X hP r t (I.ok.hd u) i pins s σ H I f st (.inl g);refine W.item j s _ _ (lt g) x λT D h1 tk C hT F m z=>⟨_,rfl,?_⟩;obtain⟨vs,G,J,L⟩:=y g D C;have p:T∉wr:=W.apart j T h1 m;refine W.go es k pos j T _ _ _ m λh2 s2 q=>?_;refine⟨.ref T,aR H T (.tup vs),?_,rfl,⟨T,vs,I.hok.fresh hT,rfl,rfl,L⟩,l h2 s2,λb U=>?_⟩
  ·exact I.tupled (λb U=>f b (d b U)) hT p (λb o U e=>q b o U (z b o U e)) (F.at λo e=>q T o p e) G J
  ·obtain⟨o,M,_⟩:=obj i _ st b U
   rw[e8 (bo (az (bc M) hT))];exact(f b U).1
 done:=by
  intro X hP r t u i pins s σ H E I f st g;obtain⟨a,wr,n,Pt,St,c,j,W,x,d,l,_,N,_⟩:=B X hP r t (I.ok.hd u) i pins s σ H I f st (.inr g);cases N g;exact W.done s _ _ x λh1 tk z=>⟨rfl,I.turnedL (λb U=>f b (d b U)) z⟩
 self:=self
variable{l:Addr}
theorem Am{A:Around}(I:A.handled=none)(S:l≠it)(c:Nat)(its:fc) :
  Draws P w A.in1 it [it,l] (c+its.size) (λj x=>∃i,j=c+i/\its[i]?=↑x) (λj h=>∃i,j=c+i/\i<=its.size/\h.IsListIter it l i/\h.IsList l its) where
 live:=λj h ⟨i,_,_,⟨o,e,_⟩,_⟩=>⟨o,e⟩
 frame:=λj h h' ⟨i,e,hi,a,b⟩ k=>⟨i,e,hi,a.at λo e=>k it ⋯ o e,b.at λo e=>k l ⋯ o e⟩
 item:=λj s Q E hj ⟨i,e,hi,a,b⟩ hQ=>by
  subst e;have hi:i<its.size:=by lia
  refine wpAny_nextOf_list_item a b (x:=its[i]) (by simp[hi]) λh' U D=>?_;exact hQ _ h' s.toks ⟨i,rfl,by simp[hi]⟩ ⟨i+1,by lia,hi,U,b.extBut D.extBut S⟩ D
 done:=λs Q E ⟨i,e,hi,a,b⟩ hE=>by
  have hi:i=its.size:=by lia
  subst hi;exact wpAny_nextOf_list_end I a b ⋯ hE
def mR(K:e5)(a:Addr)(c:Nat):It :=
 rA (λi H=>∃xs x,cK K H a xs/\xs[i]?=↑x) (λi H vs=>∃y,vs=[↥(c+i:Nat),y]/\∀xs,cK K H a xs->xs[i]?=↑y) (λi H=>∃xs,cK K H a xs/\xs.length=i)
theorem An(a it e:Addr)(c:Nat)(R:e≠it) :
  gG P w K (.Tuple es k pos) (mR K a c) [e,it] e (λi h=>(∃S,IsEnum h e it (c+i:Nat) S)/\h.IsListIter it a i):=by
 refine Al ⋯ (λi h st b G=>?_) (λi h h' st T=>?_) ?_ λA i s Q E st hQ=>?_
 ·obtain⟨⟨S,U⟩,o,ho,_,hd⟩:=st
  rcases bz.mp G with z |z
  ·subst z
   exact⟨_,U,λv z=>by cases (show Data.fields _=Data.cell v from z)⟩
  ·cases b6.mp z
   exact⟨o,ho,λv z=>by rw[hd] at z;cases z⟩
 ·exact⟨st.1.imp λS U=>T e ⋯ _ U,st.2.at λo x=>T it ⋯ o x⟩
 ·intro X hP hw hK hh i pins s σ H I hf st d
  subst hP hw hK;obtain⟨⟨S,U⟩,f⟩:=st;have J:∃xs,cK X.K H a xs/\i<=xs.length:=by
   rcases d with⟨xs,x,q,g⟩ | ⟨xs,q,g⟩
   ·exact⟨xs,q,lm (ah.mp g).1⟩
   ·exact⟨xs,q,Nat.le_of_eq g.symm⟩
  obtain⟨xs,q,L⟩:=J;obtain⟨its,W,p,hz⟩:=I.list q;have hl:=W.length;obtain⟨ol,Y,j,_⟩:=id p.isList;obtain⟨oi,l,m,_⟩:=id f;have M:a≠it:=λz=>by
   subst z;rw[Y] at l;cases l;rw[j] at m;exact absurd m (by decide)
  have N:e≠a:=λz=>by
   subst z;rw[U] at Y;cases Y;exact absurd (show Value.type "enumerate" = Value.type "list" from j) (by decide)
  have D:=Am (P:=X.prog) (w:=X.w) hh M c its.toArray;refine⟨_,_,_,_,_,_,c+i,WalksT.enumerateD D e R (by simp[R,N]) ⋯,⟨⟨S,U⟩,i,rfl,by simpa[<-hl] using L,f,p.isList⟩,λb G=>G,λh st=>?_,λd=>?_,λhs=>?_,λd Z hv=>?_⟩
  ·obtain⟨⟨n,O⟩,r,e',_,B,_⟩:=st
   have:r=i+1:=by lia
   subst this;exact⟨⟨n,O⟩,B⟩
  ·obtain⟨ys,y,C,V⟩:=d
   rw[I.list_inj C q] at V;have:=(ah.mp V).1;simp
   lia
  ·obtain⟨ys,C,V⟩:=hs
   rw[I.list_inj C q] at V;simp
   lia
  ·obtain⟨t,x,⟨r,e',g⟩,rfl⟩:=hv
   have:r=i:=by lia
   subst this;obtain⟨ys,y,C,V⟩:=d;rw[I.list_inj C q] at V;obtain⟨u,hu,ru⟩:=W.get V;have:u=x:=by
    have F:its[r]?=↑x:=by simpa using g
    rw[hu] at F;cases F;rfl
   subst this;exact⟨[↥(c+r:Nat),y],.cons ⟨t,rfl⟩ (.cons ru .nil),by show 2<=sizeLine;rw[fb];decide,y,rfl,λzs J=>by rw[I.list_inj J q];exact V⟩
 ·obtain⟨⟨S,U⟩,_⟩:=st
  exact wpAny_pyIter_enum U hQ
structure Dy (z ti to i1 i2:Addr):Prop where
 a1:ti≠z
 a2:to≠z
 a3:i1≠z
 a4:i2≠z
 a5:ti≠to
 a6:ti≠i1
 a7:ti≠i2
 a8:to≠i1
 a9:to≠i2
 aA:i1≠i2
variable{c:Nat}
theorem mS(h:c∈[n+1,n]):n<=c:=by simp at h;lia
def Ao:bootBuiltins "enumerate" = ↑(.type "enumerate"):=by decide +kernel
def rB(K:e5)(c:Nat)(ta:TA):TI:=λσ H R=>ta σ H λvs H1=>∃l xs,vs=[.ref l]/\cK K H1 l xs/\R (mR K l c) H1
variable{p:Pos}{ta:TA}
def Ap(Y:Bn X "enumerate")(d:PA X [a] ta)(f:‹starEach [a] X.env=[(false,eval a X.env)]›) :
  PI X (.Tuple es k p1) (.Call (.Name "enumerate" p) [a] [] pos) (rB X.K 0 ta):=by
 intro pins s σ H R I h;refine Call_ (t3 I Y.g Y.m Ao (ia (aW (d pos pins s σ H _ I h) λus D i=>?_) f rfl));obtain⟨vs,H1,S,j,n⟩:=i;obtain⟨l,xs,e,o,q⟩:=n;subst e;cases j with
 |cons r rr =>
   cases rr;cases r;obtain⟨its,v,pl,w⟩:=S.list o;refine call_enumerate_list pl.isList λh' b V t u=>wpAny_pyIter_enum b ?_;refine⟨D.heap.objs.size+1,[D.heap.objs.size+1,D.heap.objs.size],_,_,H1,rfl,S.kept (t':=D.toks) u,An l _ _ 0 (Nat.succ_ne_self _),⟨⟨.none,b⟩,V⟩,λc U=>?_,q⟩;have U:D.heap.objs.size<=c:=mS U;exact S.fpOk U (S.hok.fresh U)
def l3:Nat->fh->fh
 |_,[]=>[] |c,d::r=>.tup [↥c,d]::l3 (c+1) r
theorem rC:∀(ds:fh) (c i:Nat),(l3 c ds)[i]?=ds[i]?.map λd=>.tup [↥(c+i:Nat),d]
 | [],c,i=>by simp[l3]
 |d::r,c,0=>by simp[l3] |d::r,c,i+1=>by
   simp only[l3,ax];rw[rC r (c+1) i];rw[show c+1+i=c+(i+1) by lia]
def rE:∀(ds:fh) (c:Nat),(l3 c ds).length=ds.length
 | [],_=>rfl |d::r,c=>by simp[l3,rE r]
@[simp] def jF(c:Nat)(ds:fh):Option fh:=match ds with | [.lst ds]=>↑(l3 c ds) |_=>none
def Aq{t:Addr}(r:aF K H' (Ow G W') ds vs)(D:H' t=none):aQ K (aR H' t (.tup vs)) (Ow G W') (.tup ds) (.ref t):=by
 refine .tup (j9 ..) (r.mono (λa us e=>by rw[e8 (kt e D)];exact e) λa us o h=>⟨o,?_⟩);exact h.keep λo e=>by rw[e8 (kt e D)];exact e
variable{env:DE0}
def Ar(c:Nat)(ok:Ok X.K G H0 W env σ H)(h:fO X.K H (Ow G W) l vs)(r:aF X.K H (Ow G W) ds vs):rd X.K G (mR X.K l c) W H (l3 c ds) where
 go:=λW' H' i d st e=>by
  rw[rC] at e;cases e0:ds[i]? with
  |none=>rw[e0] at e;cases e
  |some d0 =>
    rw[e0] at e;cases e;obtain⟨v,D,I⟩:=(ok.reps st r).get e0;have h':=(ok.lsstep st h).sq;refine⟨⟨vs,v,h',D⟩,λx H'' ⟨t,us,hn,ex,eH,y,eu,hy⟩=>?_⟩;subst ex eH eu;have:=hy vs h';rw[D] at this;cases this;exact⟨we hn,Aq (.cons ↥_ (.cons I .nil)) hn⟩
 stop:=λW' H' st=>⟨vs,(ok.lsstep st h).sq,by rw[rE,r.length]⟩
def As(I:PI X tg e (rB X.K c (iF X.K G H0 F))):ka X G H0 tg e (gm (jF c) F):=⟨I.imp λσ H R S=>by
 obtain⟨W,env,ds,env',ok,q,k⟩:=S;cases e1:F env with
 |none=>simp[e1] at q |some z =>
   obtain⟨as,env1⟩:=z;cases e2:jF c as with
   |none=>rw[gm,e1] at q;simp only[ae,e2] at q;cases q
   |some d' =>
     have q:↑(d',env1)=↑(ds,env'):=by rw[gm,e1] at q;simp only[ae,e2] at q;exact q
     cases q;refine⟨W,env,as,_,ok,e1,λW1 vs H1 U D p1=>?_⟩;unfold jF at e2;split at e2
     ·rename_i xs
      cases e2;obtain⟨v,rfl,V⟩:=nu p1;obtain⟨l,us,rfl,h,r⟩:=V.lst_;exact⟨l,us,rfl,h.sq,k W1 _ H1 U D (Ar c D h r)⟩
     ·cases e2⟩
def Au(D:d_ X G H0 [a] F)(I:Bn X "enumerate":=by walk_at "b")(S:‹starEach [a] X.env=[(false,eval a X.env)]›) :
  ka X G H0 (.Tuple es k p1) (.Call (.Name "enumerate" p) [a] [] pos) (gm (jF 0) F):=As (Ap I D.out S)
def Av{env0:DE0}{z:Int}(h:aB i env=↑(.int z,env0)):env[i]?=↑⇑↥z/\env0=env:=by
 unfold aB at h;split at h
 ·rename_i d hd
  cases h;exact⟨hd,rfl⟩
 all_goals cases h
variable{op:D->D->fk}{o:Int->Int->Int}
def Aw(V:∀D I d,op D I=↑d->∃u v,D=.int u/\I=.int v/\d=.int (o u v)):∀Dn σ H,kT X G H0 (aJ i (aD op (aB i) f)) Dn σ H->jK i (tD X.K G H0 f) (kN o) Dn σ H :=
 λDn σ H Y=>by
 obtain⟨W,env,fl,env',ok,q,k⟩:=Y;unfold aJ aD at q;cases e0:aB i env with
 |none=>rw[e0] at q;cases q
 |some r0 =>
   obtain⟨a,env0⟩:=r0;rw[e0,ae] at q;cases e1:f env0 with
   |none=>rw[e1] at q;cases q
   |some S =>
     obtain⟨D,env1⟩:=S;rw[e1,ae] at q;cases e2:op a D with
     |none=>rw[e2] at q;cases q
     |some I =>
       rw[e2] at q;cases q;obtain⟨u,v,rfl,rfl,rfl⟩:=V _ _ _ e2;obtain⟨b,rfl⟩:=Av e0;obtain⟨y,c,e⟩:=ok.slot i _ b;refine⟨y,c,W,env0,_,_,ok,e1,λW1 h H1 g U S=>⟨u,v,aQ.int_ e,S.int_,k W1 _ H1 g (U.set ↥_)⟩⟩
def rG(I:cS Nn X)(S:aN X G H0 e f)(D:‹Nn[i]?=↑x›) :
  dS X G H0 (.AugAssign (.Name x p') .Add e pos) (aJ i (aD gx (aB i) f)):=⟨(vR (I.t D).nd (I.t D).n (I.t D).l S.out pu (I.t D).f).imp (Aw λU V d h=>by
 cases U <;> try (cases h;done)
 all_goals cases V <;> first | (cases h;done) |exact⟨_,_,rfl,rfl,(bg h).symm⟩)⟩
def rH:V->V->Hp->VK->Prop:=λo i H Q=>∃l xs k v,o=.ref l/\i=.int k/\H l=↑(.lst xs)/\0<=k/\xs[k.toNat]?=↑v/\Q v H
theorem rJ:jL X rH:=by
 intro pins s σ H o i b c Q I ro U h;obtain⟨l,xs,k,v,rfl,rfl,V,Y,S,q⟩:=h;cases ro;obtain⟨t,rfl⟩:=U;obtain⟨its,r,pl,d⟩:=I.list (.inl (.inl V));obtain⟨w,a,D⟩:=r.get S;have e:=(ah.mp S).1;have f:=qp;exact wpAny_getItem_list pl.isList Y ∅ (by simpa using a) ⟨v,H,I,D,q⟩
def u4(i:Nat)(op:D->D->fk)(k:Int)(d v:D)(e:DE0):Option (Fl×DE0):=match e[i]? with
 |some ↑(.ow ds)=>if k.toNat<ds.length then(op d v).map λr=>(.nx,e.set i ↑(.ow (ds.set k.toNat r))) else none
 |_=>none
def o9(i:Nat)(op:D->D->fk)(U V:FE):FS:=λe=>match e[i]? with
 |some ↑(.ow _)=>(U e).bind λI=>match I.1,I.2[i]? with
   | .int k,↑↑(.ow ds)=>if 0<=k then(ds[k.toNat]?).bind λd=>(V I.2).bind λS=>u4 i op k d S.1 S.2 else none
   |_,_=>none
 |_=>none
theorem rK(A:∀t x d,op t x=↑d->∃u v,t=.int u/\x=.int v/\d=.int (o u v)) :
  ∀Dn σ H,kT X G H0 (o9 i op g f) Dn σ H->pb (gE i) (tD X.K G H0 g) (tD X.K G H0 f) rH (kN o) p_ Dn σ H:=λDn σ H B=>by
 obtain⟨W,env,fl,env',ok,q,k⟩:=B;unfold o9 at q;split at q;case h_2=>cases q
 rename_i C e;obtain⟨v,b,l,E,rfl,F,J,_⟩:=ok.slot i _ e;cases e1:g env with
 |none=>rw[e1] at q;cases q
 |some c =>
 obtain⟨dk,env1⟩:=c;rw[e1,ae] at q;dsimp only at q;split at q;case h_2=>cases q
 rename_i I ds L;split at q;case isFalse=>cases q
 rename_i S;cases e2:ds[I.toNat]? with
 |none=>rw[e2] at q;cases q
 |some dd =>
 rw[e2,ae] at q;cases e3:f env1 with
 |none=>rw[e3] at q;cases q
 |some r3 =>
 obtain⟨M,y⟩:=r3;rw[e3,ae] at q;unfold u4 at q;split at q;case h_2=>cases q
 rename_i N U;split at q;case isFalse=>cases q
 cases e4:op dd M with
 |none=>rw[e4] at q;cases q
 |some dr =>
 rw[e4] at q;cases q;obtain⟨u,w,rfl,rfl,rfl⟩:=A _ _ _ e4;refine⟨_,b,W,env,_,_,ok,e1,λW1 v1 H1 O V c=>?_⟩;obtain⟨P,D,Q,h,R,T,j,m⟩:=V.slot i _ L;rw[b] at D;cases D;cases R;obtain⟨Z,n,p⟩:=m.get e2;refine⟨l,h,I,Z,rfl,c.int_,j,S,n,W1,env1,_,_,V,e3,λW2 v2 H2 s2 Y r2=>?_⟩;refine⟨u,w,p.int_,r2.int_,?_⟩;obtain⟨P,D,Q,r,e6,aa,s,a⟩:=Y.slot i _ U;rw[b] at D;cases D;cases e6;obtain⟨t1,t2⟩:=Y.turn U b (aF.set ↥(o u w) I.toNat a);have z:=a.length;refine⟨l,r,I,I.toNat,rfl,c.int_,s,?_,k W2 _ _ ((O.trans s2).trans t2) t1⟩;unfold eQ;rw[am S,am ∅]
def Ax(U:aN X G H0 b g)(V:aN X G H0 e f)(an:bI Nn Cn X)(S:‹Nn[i]?=↑x›)(Y:∀D I new,augStore b D I new=(do holding [new,D,I] (setItem D I new);release [new,D,I] [];pure .next):=by intros;rfl) :
  dS X G H0 (.AugAssign (.Subscript (.Name x p') b p1) .Add e pos) (o9 i gx g f):=⟨(pc ((an.a S).pe) U.out rJ V.out pu lT Y).imp (rK λc j d h=>by
 cases c <;> try (cases h;done)
 all_goals cases j <;> first | (cases h;done) |exact⟨_,_,rfl,rfl,(bg h).symm⟩)⟩
def Ay(U:aN X G H0 b g)(V:aN X G H0 e f)(an:bI Nn Cn X)(S:‹Nn[i]?=↑x›)(Y:∀D I new,augStore b D I new=(do holding [new,D,I] (setItem D I new);release [new,D,I] [];pure .next):=by intros;rfl) :
  dS X G H0 (.AugAssign (.Subscript (.Name x p') b p1) .Sub e pos) (o9 i bS g f):=⟨(pc ((an.a S).pe) U.out rJ V.out vS lT Y).imp (rK λc j d h=>by
 cases c <;> try (cases h;done)
 all_goals cases j <;> first | (cases h;done) |exact⟨_,_,rfl,rfl,(bg h).symm⟩)⟩
def yq(I:fh)(e:DE0)(i:Nat):Option (D×DE0):=match e[i]? with
 |some ↑(.ow ds)=>if cE (ds.length+I.length) then ↑(.non,e.set i ↑(.ow (ds++I))) else none
 |_=>none
def vk(i:Nat)(F:FA):FE:=λe=>match e[i]? with
 |some ↑(.ow _)=>(F e).bind λr=>yq r.1 r.2 i
 |_=>none
def Az(m:fX X G H0 a F)(an:bI Nn Cn X)(Y:‹Nn[i]?=↑x›)(D:‹attributeBase (.Name x p') "extend" X.env (eval (.Name x p') X.env)=eval (.Name x p') X.env›)(S:((backTo pos (starEach [a] X.env)).all (λx=>!x.1) && (backToKw pos (keywordEach [] X.env)).all (λx=>x.1.isSome)
   && decide ([a].length+([]:List Keyword).length+(if ([]:List Keyword).isEmpty then 0 else 1)<30))=true:=by rfl)(I:‹(p1.endLine==pos.line)=true›)(f:‹starEach [a] X.env=(false,eval a X.env)::starEach [] X.env›) :
  aN X G H0 (.Call (.Attribute (.Name x p') "extend" p1) [a] [] pos) (vk i F):=⟨(u8 gg PySem.F.slot_list_extend PySem.F.type_list_extend xV ((an.a Y).pe) (j6 m.out lx f) D S I f rfl).imp λσ H Q o=>by
 obtain⟨W,env,d,env',ok,q,k⟩:=o;unfold vk at q;split at q;case h_2=>cases q
 rename_i p b;obtain⟨v,c,l,s,rfl,t,e,_⟩:=ok.slot i _ b;cases e1:F env with
 |none=>rw[e1] at q;cases q
 |some r =>
   obtain⟨u,env1⟩:=r;rw[e1,ae] at q;unfold yq at q;split at q;case h_2=>cases q
   rename_i ds g;split at q;case isFalse=>cases q
   rename_i U;cases q;refine⟨_,c,.inl ⟨rfl,_,.inl (.inl e)⟩,W,env,u,env1,ok,e1,λW1 n us H1 w y V J z h=>?_⟩;obtain⟨K,j,L,vs,A,M,B,r⟩:=V.slot i _ g;rw[c] at j;cases j;cases A;obtain⟨C,E⟩:=V.turn g c (r.append h);refine⟨l,n,vs,us,rfl,rfl,B,z,?_,k _ _ _ (w.trans E) C .non⟩;rw[<-r.length,<-h.length];exact b5 U (by rw[fb];decide)⟩
structure Dz (X:Cx) (G:Gd) (H0:Hp) (tg:Expr) (e:Expr) (f:FI):Prop where
 out:PI X tg e (mG X.K G H0 f)
def rL(i:Nat):FI:=λe=>match e[i]? with
 |some ↑(.ow ds)=>↑(ds,e) |some ⇑(.lst ds)=>↑(ds,e) |_=>none
def va(i:Nat):FE:=λe=>match e[i]? with
 |some ↑(.ow ds)=>(bE ds).map λns=>(.int ns.sum,e) |some ⇑(.lst ds)=>(bE ds).map λns=>(.int ns.sum,e) |_=>none
def A0(an:bI Nn Cn X)(Y:‹X.calm=true›)(U:Bn X "sum":=by walk_at "b")(D:‹Nn[i]?=↑x›)(V:‹starEach [.Name x p1] X.env=(false,eval (.Name x p1) X.env)::starEach [] X.env›):aN X G H0 (.Call (.Name "sum" p') [.Name x p1] [] pos) (va i) :=
 ⟨(rq (qS Y) U.g U.m boot_sum (j6 ((an.a D).pe) lx V) (by decide) (by decide) V rfl).imp λσ H Q b=>by
  obtain⟨W,env,d,env',ok,q,k⟩:=b;unfold va at q;split at q
  ·rename_i ds I
   cases e2:bE ds with
   |none=>rw[e2] at q;cases q
   |some ns =>
   rw[e2] at q;cases q;cases rj e2;obtain⟨v,S,l,vs,rfl,e,c,r⟩:=ok.slot i _ I;cases se r;exact⟨_,S,l,ns,rfl,.inl (.inl c),k W _ H Step.refl ok ↥_⟩
  ·rename_i ds I
   cases e2:bE ds with
   |none=>rw[e2] at q;cases q
   |some ns =>
   rw[e2] at q;cases q;cases rj e2;obtain⟨v,S,r⟩:=ok.slot i _ I;obtain⟨l,us,rfl,h,r⟩:=aQ.lst_ r;cases se r;exact⟨_,S,l,ns,rfl,h.sq,k W _ H Step.refl ok ↥_⟩
  ·cases q⟩
def A1(K:e5)(G:Gd)(H0:Hp)(f:FA):TA:=λσ H Q=>DP K G H0 f (λW env ds env' =>
 ∀W' vs H',Step W H W' H'->Ok K G H0 W' env' σ H'->aF K H' G ds vs->Q vs H') σ H
structure D0 (X:Cx) (G:Gd) (H0:Hp) (es:er) (f:FA):Prop where
 out:PA X es (A1 X.K G H0 f)
theorem A2(g:X.calm=true):l4 X (.builtin "min") (λxs H Q=>∃p,∃ns:ei,∃M,xs=[.ref p]/\cK X.K H p (ns.map V.int)/\M∈ns/\(∀a,a∈ns->M<=a)/\Q ↥M H):=by
 intro pins s σ H xs us Q I r h;obtain⟨p,ns,M,rfl,k,b,U,q⟩:=h;obtain⟨u,rfl,l⟩:=qo r;cases l;obtain⟨its,m,pl,x⟩:=I.list k;have hi:IntsAre its ns:=lS m;have d:=pl.isList;obtain⟨D,Y⟩:=hi.allInts.items;rw[Y] at d;have S:ns=D.toList.map (·.1):=by rw[<-hi.numsOf,<-nums_intItems,<-Y]
 have c:0<D.size:=by
  have f:=List.length_pos_of_mem b;rw[S,af,fu] at f;exact f
 refine min_intList (I.ok.hd g) d c λv h' tk n o=>?_;obtain⟨t,rfl⟩:=intItems_at n;obtain⟨h1,h2⟩:=argBest_lt (numAt D) (D.size-1);have e:numAt D (argBest (λi j=>decide (numAt D i<numAt D j)) (D.size-1))=M:=by
  apply Int.le_antisymm
  ·rw[S] at b
   obtain⟨j,w,rfl⟩:=mem_getD b;rw[af,fu] at w;rw[<-numAt_eq];exact h2 j ∅
  ·apply U
   rw[S,numAt_eq];exact getD_mem (by rw[af,fu];lia)
 exact⟨.int M,H,I.kept o,⟨t,by rw[<-e]⟩,q⟩
def fF:ei->ew
 | []=>none | [a]=>↑a |a::b::r=>(fF (b::r)).map λm=>if m<a then m else a
theorem rM:∀ {ns:ei} {M:Int},fF ns=↑M->M∈ns/\∀a,a∈ns->M<=a
 | [],M,h=>by cases h
 | [a],M,h=>by cases h;simp
 |a::b::r,M,h=>by
   unfold fF at h;cases e:fF (b::r) with
   |none=>rw[e] at h;cases h
   |some m =>
     rw[e] at h;obtain⟨h1,h2⟩:=rM e;cases h;show(if m<a then m else a)∈a::b::r/\∀z,z∈a::b::r->(if m<a then m else a)<=z;by_cases D:m<a
     ·rw[am D]
      refine⟨ai _ h1,λz hz=>?_⟩;rcases bz.mp hz with rfl |hz
      ·lia
      ·exact h2 z hz
     ·rw[b3 D]
      refine⟨ay,λz hz=>?_⟩;rcases bz.mp hz with rfl |hz
      ·lia
      ·have:=h2 z hz;lia
def rN:∀ {ns:ei},ns≠[]->∃M,fF ns=↑M
 | [],h=>absurd rfl h | [a],_=>⟨a,rfl⟩ |a::b::r,_=>by
   obtain⟨m,D⟩:=rN (ns:=b::r) ⋯;exact⟨_,by unfold fF;rw[D];rfl⟩
def qj:fh->fk | [.lst ds]=>(bE ds).bind λns=>(fF ns).map D.int |_=>none
def A3:pw X G H0 (λxs H Q=>∃p,∃ns:ei,∃M,xs=[.ref p]/\cK X.K H p (ns.map V.int)/\M∈ns/\(∀a,a∈ns->M<=a)/\Q ↥M H) qj:=by
 intro W env σ H vs ds d Q ok r e k;unfold qj at e;split at e
 ·rename_i D
  cases e1:bE D with
  |none=>rw[e1] at e;cases e
  |some ns =>
    rw[e1,ae] at e;cases e2:fF ns with
    |none=>rw[e2] at e;cases e
    |some M =>
      rw[e2] at e;cases e;cases rj e1;obtain⟨v,rfl,I⟩:=nu r;obtain⟨l,us,rfl,h,S⟩:=I.lst_;cases se S;obtain⟨h1,h2⟩:=rM e2;exact⟨l,ns,M,rfl,h.sq,h1,h2,k _ H Step.refl ok ↥_⟩
 ·cases e
def A4(I:d_ X G H0 [e] F)(S:‹X.calm=true›)(D:Bn X "min":=by walk_at "b")(U:‹starEach [e] X.env=(false,eval e X.env)::starEach [] X.env›):aN X G H0 (.Call (.Name "min" p') [e] [] pos) (f8 qj F) :=
 m9 (A2 S) A3 D.g D.m boot_min I (by decide) (by decide) U rfl
variable{xs:d3}
def mT(h:sc.names.lookup x=some .globalImplicit):Gl (lf X xs N' sc cl C s H fp) x:=mP h
section
variable (P:Program) (w:World)
end
section
variable {X:Cx} {CX:fN} {k:Nat} {f C:Addr} {fd:FuncData} {ps ks:d3} {sp:Sp} {E:XK} {x m:Str} {p pos apos kpos:Pos} {e o:Expr} {es:er} {kws:List Keyword} {te ta:TE} {t tk:TA} {nm:et}
variable {g:d5->d5->d5} {gV:fe->fe->fe}
end
section
variable {κ:Type} [DecidableEq κ]
def rO(D:List (κ×V))(k:κ):List (κ×V):=D.filter λI=>decide (I.1≠k)
def dP.getD{o:Option V}{u:eb}{d:V}{d':Value}(r:dP o u)(D:RelV d d'):RelV (o.getD d) (u.getD d'):=by
 cases o with
 |none=>cases u with
   |none=>exact D |some _=>exact(show False from r).elim
 |some _=>cases u with
   |none=>exact(show False from r).elim |some _=>exact r
def KV.drop{D:List (κ×V)}{vs:List (κ×Value)}(r:KV D vs)(k:κ):KV (rO D k) (without vs k):=by
 unfold KV at r ⊢;unfold rO without;induction r with
 |nil=>exact .nil | @cons p q ps qs h t ih =>
   obtain⟨h1,h2⟩:=h;rw[je,je];by_cases e:p.1=k
   ·have a:¬decide (p.1≠k)=true:=by simp[e]
    have b:¬decide (q.1≠k)=true:=by simp[h1.symm.trans e]
    rw[b3 a,b3 b];exact ih
   ·have e':¬q.1=k:=λz=>e (h1.trans z)
    have a:decide (p.1≠k)=true:=by simp[e]
    have b:decide (q.1≠k)=true:=by simp[e']
    rw[am a,am b];exact .cons ⟨h1,h2⟩ ih
def KV.length{D:List (κ×V)}{vs:List (κ×Value)}(r:KV D vs):D.length=vs.length:=Paired.length r
end
structure M1 (X:Cx) (o:Expr) (m:Str) (apos:Pos) (e:Expr) (cpos:Pos):Prop where
 base:attributeBase o m X.env (eval o X.env)=eval o X.env
 few:((backTo cpos (starEach [e] X.env)).all (λx=>!x.1) && (backToKw cpos (keywordEach [] X.env)).all (λx=>x.1.isSome)
  && decide (([e]:er).length+([]:List Keyword).length+(if ([]:List Keyword).isEmpty then 0 else 1)<30))=true
 line:(apos.endLine==cpos.line)=true
 trees:backTo cpos (starEach [e] X.env)=[(false,eval e X.env)]
structure M2 (X:Cx) (o:Expr) (m:Str) (apos:Pos) (e f:Expr) (cpos:Pos):Prop where
 base:attributeBase o m X.env (eval o X.env)=eval o X.env
 few:((backTo cpos (starEach [e,f] X.env)).all (λx=>!x.1) && (backToKw cpos (keywordEach [] X.env)).all (λx=>x.1.isSome)
  && decide (([e,f]:er).length+([]:List Keyword).length+(if ([]:List Keyword).isEmpty then 0 else 1)<30))=true
 line:(apos.endLine==cpos.line)=true
 trees:backTo cpos (starEach [e,f] X.env)=[(false,eval e X.env),(false,eval f X.env)]
end L2
namespace Att
open PySem PySem.W PySem.Calls PyProof.Rows
end Att
namespace L2
open PySem PySem.Spec PyProof.Rows
section
variable {κ:Type} [DecidableEq κ]
end
variable{X:Cx}{x:Str}
def A5:lV X "list.count" (λx xs H Q=>∃p,∃ns:ei,∃k:Int,x=.ref p/\xs=[↥k]/\cK X.K H p (ns.map V.int)/\Q ↥(ns.count k:Nat) H):=by
 intro pins s σ H x xs v us Q I D S h;obtain⟨p,ns,k,rfl,rfl,U,q⟩:=h;cases D;obtain⟨u,rfl,Y⟩:=S.one;obtain⟨t,rfl⟩:=Y;obtain⟨its,a,pl,b⟩:=I.list U;exact count_list_ints pl.isList (lS a) ⟨.int (ns.count k:Nat),H,I.tok _,⟨_,rfl⟩,q⟩
def p9:D->D->fk | .lst ds,.int k=>(bE ds).map λns=>.int (ns.count k:Nat) |_,_=>none
variable{G:Gd}{H0:Hp}{f g:FE}
def A6{r:V->fe->Hp->VK->Prop}{op:D->D->fk}(c:∀a i d,op a i=↑d->∃ds,a=.lst ds)(j:eE X G H0 (λx y H Q=>r x [y] H Q) op) :
  ∀σ H Q,tD X.K G H0 (aD op f g) σ H Q->qA X.K "list" r (tD X.K G H0 f) (pL (tD X.K G H0 g) iO) σ H Q:=by
 rintro σ H Q ⟨W,env,d,env',ok,e,k⟩;cases e1:f env with
 |none=>simp[aD,e1] at e |some r1 =>
   cases e2:g r1.2 with
   |none=>simp[aD,e1,e2] at e |some r2 =>
     have e:(op r1.1 r2.1).map (λd=>(d,r2.2))=↑(d,env'):=by simpa[aD,e1,e2] using e
     cases e3:op r1.1 r2.1 with
     |none=>rw[e3] at e;cases e
     |some d' =>
       rw[e3] at e;have m:(d',r2.2)=(d,env'):=bg e;cases m;obtain⟨ds,S⟩:=c _ _ _ e3;refine⟨W,env,r1.1,r1.2,ok,e1,λW1 n H1 o I p1=>⟨?_,W1,r1.2,r2.1,r2.2,I,e2,λb p H2 s2 U p2=>?_⟩⟩
       ·rw[S] at p1
        obtain⟨l,us,rfl,h,u⟩:=p1.lst_;exact .inl ⟨rfl,_,h.sq⟩
       ·exact j b _ σ H2 n p _ _ _ Q U (I.rep s2 p1) p2 e3 λv q s Y t=>k b v q ((o.trans s2).trans s) Y t
def A7:eE X G H0 (λx y H Q=>∃p,∃ns:ei,∃k:Int,x=.ref p/\[y]=[V.int k]/\cK X.K H p (ns.map V.int)/\Q ↥(ns.count k:Nat) H) p9:=by
 intro W env σ H x y U Y d Q ok D I e k;unfold p9 at e;split at e;case h_2=>cases e
 rename_i ds i;cases e1:bE ds with
 |none=>rw[e1] at e;cases e
 |some ns =>
   rw[e1] at e;cases e;cases rj e1;obtain⟨l,us,rfl,h,S⟩:=D.lst_;cases se S;exact⟨l,ns,i,rfl,by rw[I.int_],h.sq,k _ H Step.refl ok ↥_⟩
variable{a b:Expr}{pos p1:Pos}
def A8(V:aN X G H0 b g)(Y:aN X G H0 a f)(D:‹attributeBase b "count" X.env (eval b X.env)=eval b X.env›)(S:((backTo pos (starEach [a] X.env)).all (λx=>!x.1) && (backToKw pos (keywordEach [] X.env)).all (λx=>x.1.isSome)
   && decide ([a].length+([]:List Keyword).length+(if ([]:List Keyword).isEmpty then 0 else 1)<30))=true:=by rfl)(I:‹(p1.endLine==pos.line)=true›)(U:‹starEach [a] X.env=(false,eval a X.env)::starEach [] X.env›) :
  aN X G H0 (.Call (.Attribute b "count" p1) [a] [] pos) (aD p9 g f):=⟨(u8 gg PySem.F.slot_list_count PySem.F.type_list_count A5 V.out (j6 Y.out lx U) D S I U rfl).imp
 (A6 (λc e d h=>by unfold p9 at h;split at h;exact⟨_,rfl⟩;cases h) A7)⟩
end L2
namespace L2
open PySem
theorem rP{i:Nat}{g:FS}(P:Nat->DE0->Prop):∀(ds:fh) (e:DE0) (n:Nat),P n e->(∀(k:Nat) (d:D) (e:DE0),ds[k]?=↑d->P (n+k) e->∃e',g (e.set i ⇑d)=↑(.nx,e')/\P (n+k+1) e') ->
  ∃e',cM i g ds e=↑(.nx,e')/\P (n+ds.length) e'
 | [],e,n,h,_=>⟨e,rfl,h⟩ |d::r,e,n,h,hs=>by
   obtain⟨I,h1,p1⟩:=hs 0 d e rfl h;obtain⟨S,h2,p2⟩:=rP P r I (n+1) p1 λk d' e' U V=>by
    have:=hs (k+1) d' e' (by simpa using U) (by rw[<-Nat.add_assoc,Nat.add_right_comm];exact V);rw[show n+(k+1)+1=n+1+k+1 by lia] at this;exact this
   refine⟨S,?_,by rw[ak,show n+(r.length+1)=n+1+r.length by lia];exact p2⟩;simp[cM,h1,h2]
variable{i:Int}{g:FS}
def ug{i:Nat}(P:Nat->DE0->Prop)(ds:fh)(e:DE0)(h:P 0 e)(I:∀(k:Nat) (d:D) (e:DE0),ds[k]?=↑d->P k e->∃e',g (e.set i ⇑d)=↑(.nx,e')/\P (k+1) e') :
  ∃e',cM i g ds e=↑(.nx,e')/\P ds.length e':=by
 obtain⟨e',h1,h2⟩:=rP P ds e 0 h λk d e S U=>by
  obtain⟨e',V,Y⟩:=I k d e S (by simpa using U);exact⟨e',V,by simpa using Y⟩
 exact⟨e',h1,by simpa using h2⟩
variable{lo:Int}{n:Nat}{d:D}
def ud{k:Nat}(h:(bK lo n)[k]?=↑d):d=.int (lo+k)/\k<n:=by
 unfold bK at h;rw[bh] at h;by_cases D:k<n
 ·rw[List.getElem?_range D] at h
  exact⟨(bg h).symm,D⟩
 ·rw[dg (by simpa using D)] at h;cases h
def wz:(bK lo n).length=n:=by simp[bK]
theorem mU(h:-1000000000000<i/\i<1000000000000):m4 i:=⟨by lia,by lia⟩
variable{α:Type}
theorem A9{xs:List α}(I:0<=i)(h1:i<xs.length):∃x,bZ xs i=↑x/\xs[i.toNat]?=↑x:=by
 have D:i.toNat<xs.length:=by lia
 exact⟨xs[i.toNat],by unfold bZ eQ;rw[am I,am h1];simp[D],by simp[D]⟩
def ml{ar:Nat}{ds:fh}{e':DE0}(h:ds.length=ar)(I:g (jz n ds)=↑(.rt d,e')):aY n ar g ds=↑d:=by
 unfold aY;rw[am h,I]
def few(h:n<=1000000):cE n:=b5 h (by decide)
theorem n9(n:Nat)(D:n<=1000000):eV [↥n]=↑(bK 0 n):=by
 unfold eV;dsimp only;rw[am (show jC _ _ _ from⟨by lia,by lia⟩),i0]
variable{j:Int}
def AA(h:m4 i):cQ ↥i ↥j=↑↥(i*j):=by
 unfold cQ;dsimp only;rw[am (.inl h)]
def ua(h:0<j):bH ↥i ↥j=↑↥(i % j):=by
 unfold bH;dsimp only;rw[am h]
theorem zo(h:0<j)(h2:j<1073741824):cV ↥i ↥j=↑↥(i / j):=by
 unfold cV;dsimp only;rw[am (show jC _ _ _ from⟨by lia,h2⟩)]
def mr{α:Type}{te:FE}{base:DE0}(φ ψ:α->D):∀(xs:List α),(∀x∈xs,∃e',te (⇑(φ x)::base)=↑(ψ x,e'))->lp cB te base (xs.map φ)=↑(xs.map ψ)
 | [],_=>rfl |x::xs,h=>by
   obtain⟨e',I⟩:=h x ay;have S:=mr φ ψ xs λy U=>h y (ai _ U);simp[lp,I,S]
def mV{α:Type}{tt:FT}{te:FE}{base:DE0}(φ ψ:α->D)(p:α->Bool):∀(xs:List α),(∀x∈xs,∃I,tt (⇑(φ x)::base)=↑(p x,I)/\(p x=true->∃e',te I=↑(ψ x,e')))->lp tt te base (xs.map φ)=↑((xs.filter p).map ψ)
 | [],_=>rfl |x::xs,h=>by
   obtain⟨I,h1,h2⟩:=h x ay;have S:=mV φ ψ p xs λy U=>h y (ai _ U);cases hp:p x with
   |false =>
     simp[lp,h1,S,je,hp]
   |true =>
     obtain⟨e',V⟩:=h2 hp;simp[lp,h1,V,S,je,hp]
def rQ{α:Type}{te:FA}{base:DE0}(φ:α->D)(ψ:α->fh):∀(xs:List α),(∀x∈xs,∃e',te (⇑(φ x)::base)=↑(ψ x,e'))->vd te base (xs.map φ)=↑(xs.map ψ)
 | [],_=>rfl |x::xs,h=>by
   obtain⟨e',I⟩:=h x ay;have S:=rQ φ ψ xs λy U=>h y (ai _ U);simp[vd,I,S]
def rR{α:Type}{i:Nat}{g:FS}(φ:α->D)(P:List α->DE0->Prop)(all:List α)(I:∀(p:List α) (x:α) (q:List α) (e:DE0),all=p++x::q->P p e->∃e',g (e.set i ⇑(φ x))=↑(.nx,e')/\P (p++[x]) e') :
  ∀(xs pre:List α) (e:DE0),all=pre++xs->P pre e->∃e',cM i g (xs.map φ) e=↑(.nx,e')/\P all e'
 | [],pre,e,h,hp=>⟨e,rfl,by rw[h,cr];exact hp⟩ |x::xs,pre,e,h,hp=>by
   obtain⟨S,h1,p1⟩:=I pre x xs e h hp;obtain⟨U,h2,p2⟩:=rR φ P all I xs (pre++[x]) S (by rw[h];simp) p1;exact⟨U,by simp[cM,h1,h2],p2⟩
def wc{i:Nat}(φ:α->D)(P:List α->DE0->Prop)(all:List α)(e:DE0)(I:P [] e)(S:∀(p:List α) (x:α) (q:List α) (e:DE0),all=p++x::q->P p e->∃e',g (e.set i ⇑(φ x))=↑(.nx,e')/\P (p++[x]) e') :
  ∃e',cM i g (all.map φ) e=↑(.nx,e')/\P all e':=rR φ P all S all [] e rfl I
end L2
namespace L2
open PySem PySem.Spec PyProof.Rows PySem.W
abbrev Ag:=AK×fw
abbrev f4:=List Ag
abbrev gb:=Option (D×List Ag)
def iI(x:Ag)(j:Nat):Sl:=.ag x.1 ↑j x.2
def dI(env:DE0):ee->Option f4
 | []=>↑[] |i::r=>match env[i]? with |some ↑(.ag k _ ps)=>(dI env r).map λt=>(k,ps)::t |_=>none
def cD(env:DE0):ee->f4->DE0
 |i::r,x::t=>match env[i]? with |some ↑(.ag _ l _)=>cD (env.set i ↑(.ag x.1 l x.2)) r t |_=>cD env r t
 |_,_=>env
def ky(ags:f4):DE0:=ags.zipIdx.map λp=>↑(iI p.1 p.2)
variable{env:DE0}
def qd:∀ {is:ee} {ags:f4} {j i:Nat},dI env is=↑ags->is[j]?=↑i->∃x l,ags[j]?=↑x/\env[i]?=↑↑(.ag x.1 l x.2)
 |a::r,ags,j,i,h,e=>by
   unfold dI at h;split at h
   ·rename_i k l ps q
    cases h2:dI env r with
    |none=>rw[h2] at h;cases h
    |some t =>
      rw[h2] at h;cases h;cases j with
      |zero=>simp at e;subst e;exact⟨(k,ps),l,rfl,q⟩
      |succ j=>obtain⟨x,D,I,S⟩:=qd h2 (by simpa using e);exact⟨x,D,by simpa using I,S⟩
   ·cases h
def wb:∀ {is:ee} {ags:f4},dI env is=↑ags->ags.length=is.length
 | [],_,h=>by cases h;rfl
 |a::r,ags,h=>by
   unfold dI at h;split at h
   ·cases h2:dI env r with
    |none=>rw[h2] at h;cases h
    |some t=>rw[h2] at h;cases h;rw[ak,ak,wb h2]
   ·cases h
def z9:∀ {is:ee} {ags:f4} {env:DE0},(cD env is ags).length=env.length
 | [],_,_=>by simp[cD] |a::r,[],_=>by simp[cD] |a::r,x::t,env=>by
   unfold cD;split
   ·rw[z9,de]
   ·rw[z9]
def vj:∀ {is:ee} {ags:f4} {env:DE0} {i:Nat},i∉is->(cD env is ags)[i]?=env[i]?
 | [],_,_,_,_=>by simp[cD] |a::r,[],_,_,_=>by simp[cD] |a::r,x::t,env,i,h=>by
   have h1:a≠i:=λz=>h (by simp[z]);have h2:i∉r:=λz=>h (by simp[z]);unfold cD;split
   ·rw[vj h2,b8 h1]
   ·rw[vj h2]
def zn:∀ {is:ee} {ags:f4} {env:DE0} {j i:Nat} {x:Ag} {k:AK} {l:Option Nat} {ps:fw},is.Nodup->is[j]?=↑i->ags[j]?=↑x->env[i]?=↑↑(.ag k l ps)->(cD env is ags)[i]?=↑↑(.ag x.1 l x.2)
 |a::r,y::t,env,j,i,x,k,l,ps,nd,e1,e2,e3=>by
   cases j with
   |zero =>
     simp at e1 e2;subst e1;subst e2;unfold cD;rw[e3];rw[vj (cb.mp nd).1,cu (ah.mp e3).1]
   |succ j =>
     have hi:a≠i:=λz=>by subst z;exact(cb.mp nd).1 (br (by simpa using e1))
     unfold cD;split
     ·exact zn (cb.mp nd).2 (by simpa using e1) (by simpa using e2) (by rw[b8 hi];exact e3)
     ·exact zn (cb.mp nd).2 (by simpa using e1) (by simpa using e2) e3
variable{ags:f4}{j:Nat}{s:Stmt}
def vz{s:Sl}(h:(ky ags)[j]?=↑↑s):∃x,ags[j]?=↑x/\s=iI x j:=by
 unfold ky at h;rw[bh,List.getElem?_zipIdx] at h;cases e:ags[j]? with
 |none=>rw[e] at h;cases h
 |some x=>rw[e] at h;cases h;exact⟨x,rfl,by simp⟩
def rS:(ky ags).length=ags.length:=by simp[ky]
def fG(H:Hp)(W:Addr->Prop):Hp:=λa=>open Classical in if W a then none else H a
variable{a:Addr}{W:Addr->Prop}{H:Hp}
def z8(h:W a):fG H W a=none:=am h
def rT(h:¬W a):fG H W a=H a:=b3 h
variable{o:Expr}
def rV{o:HO}(h:fG H W a=↑o):¬W a/\H a=↑o:=by
 by_cases z:W a
 ·rw[z8 z] at h;cases h
 ·rw[rT z] at h;exact⟨z,h⟩
def rW(h:fG H W a=none):W a\/H a=none:=by
 by_cases z:W a
 ·exact .inl z
 ·rw[rT z] at h;exact .inr h
def bF(H:Hp)(env:DE0)(σ:St)(is:ee):Addr->Prop:=λa=>∃i s v,i∈is/\env[i]?=↑↑s/\σ[i]?=↑↑v/\aV H s v a
variable{is:ee}{K:e5}{G:Gd}{H0:Hp}{σ:St}
def Ok.lentW(ok:Ok K G H0 W env σ H)(h:bF H env σ is a):W a:=by
 obtain⟨i,s,v,_,e,I,o⟩:=h;obtain⟨S,D,q⟩:=ok.slot i s e;rw[I] at D;cases D;exact q.owns o
def nr(G:Gd)(W L:Addr->Prop)(r:Nat->ed):Gd:=⟨λa=>G a/\(W a->L a),r⟩
def Ok.lend(ok:Ok K G H0 W env σ H)(nd:is.Nodup)(g:dI env is=↑ags) :
  ∃(r:Nat->ed) (us:fe),us.length=is.length/\(∀(j i:Nat),is[j]?=↑i->∃u,us[j]?=↑u/\σ[i]?=↑↑u) /\
   (∀(j i:Nat) (k:AK) (l:Option Nat) (ps:fw),is[j]?=↑i->env[i]?=↑↑(.ag k l ps)->∃p as,us[j]?=↑(.ref p)/\gZ k (r j) p as/\∀n,l=↑n->gZ k (G.r n) p as) /\
   Ok K (nr G W (bF H env σ is) r) (fG H (bF H env σ is)) (bF H env σ is) (ky ags) (us.map some) H:=by
 have F:∀a,bF H env σ is a->W a:=λa=>ok.lentW;have ex:∀j:Nat,∃t:ed×V,∀(i:Nat) (x:Ag) (l:Option Nat),is[j]?=↑i->ags[j]?=↑x->env[i]?=↑↑(.ag x.1 l x.2) ->
   σ[i]?=↑↑t.2/\∃p as us,t.2=.ref p/\gZ x.1 t.1 p as/\W p/\(p::as).Nodup/\(∀n,l=↑n->gZ x.1 (G.r n) p as)/\cI K H x.1 p us/\aO K G W H x.2 as us:=λj=>by
  cases S:is[j]? with
  |none=>exact⟨([],.non),λi x l e=>by cases e⟩
  |some i =>
    obtain⟨x,l,h1,h2⟩:=qd g S;obtain⟨v,I,p,as,us,U,hW,M,hl,J,L⟩:=ok.slot i _ h2;refine⟨(match x.1 with | .ins true _ _=>[p] |_=>p::as,v),λN O P z1 z2 z3=>?_⟩;cases z1;rw[h1] at z2;cases z2;rw[h2] at z3;cases z3;refine⟨I,p,as,us,U,?_,hW,M,hl,J,L⟩;obtain⟨k,ps⟩:=x;cases k with
    |ls=>rfl |ins b c fs=>cases b <;> rfl
 obtain⟨t,f⟩:=Classical.axiomOfChoice ex;have y:=wb g;refine⟨λj=>(t j).1,(List.range is.length).map λj=>(t j).2,by simp,λj i e=>?_,λj i k l ps I U=>?_,?_⟩
 ·have S:=(ah.mp e).1
  obtain⟨x,l,h1,h2⟩:=qd g e;exact⟨_,by simp[S],(f j i x l e h1 h2).1⟩
 ·have S:=(ah.mp I).1
  obtain⟨x,P,h1,h2⟩:=qd g I;rw[U] at h2;cases h2;obtain⟨q1,p,as,us,A,Q,_,_,q4,_⟩:=f j i x l I h1 U;exact⟨p,as,by simp[S,A],Q,q4⟩
 ·have own:∀ {j i:Nat} {x:Ag} {l:Option Nat},is[j]?=↑i->ags[j]?=↑x->env[i]?=↑↑(.ag x.1 l x.2)->∀a,aV H (iI x j) (t j).2 a->bF H env σ is a:=λ{j i x l} I U B a o =>
   ⟨i,_,_,br I,B,(f j i x l I U B).1,o⟩
  have cv:∀ {d:D} {v:V},aQ K H (Ow G W) d v->aQ K H (Ow (nr G W (bF H env σ is) λj=>(t j).1) (bF H env σ is)) d v:=λr =>
   r.mono (λ_ _ h=>h) λa us o h=>⟨⟨⟨o.1,λz=>absurd z o.2⟩,λz=>o.2 (F a z)⟩,h⟩
  have R:∀ {d:fh} {v:fe},aF K H (Ow G W) d v->aF K H (Ow (nr G W (bF H env σ is) λj=>(t j).1) (bF H env σ is)) d v:=λr =>
   r.mono (λ_ _ h=>h) λa us o h=>⟨⟨⟨o.1,λz=>absurd z o.2⟩,λz=>o.2 (F a z)⟩,h⟩
  have pos:∀ {j:Nat} {s:Sl},(ky ags)[j]?=↑↑s->∃i x l,is[j]?=↑i/\ags[j]?=↑x/\env[i]?=↑↑(.ag x.1 l x.2)/\s=iI x j/\(((List.range is.length).map λj=>(t j).2).map some)[j]?=↑↑(t j).2:=λ{j s} e=>by
   obtain⟨x,h1,rfl⟩:=vz e;have S:j<is.length:=by rw[<-y];exact(ah.mp h1).1
   obtain⟨O,l,h2,Y⟩:=qd g (show is[j]?=↑is[j] by simp[S]);rw[h1] at h2;cases h2;exact⟨is[j],x,l,by simp[S],h1,Y,rfl,by simp[S]⟩
  refine⟨λa o e=>(rV e).2,λa e=>?_,λa e=>⟨z8 e,(ok.wl a (F a e)).2⟩,λj s e=>?_,λj j' s s' v v' a I U B e4 o1 o2=>?_,by rw[rS,af,af,fg,y]⟩
  ·rcases rW e with z |z
   ·exact⟨ok.good a (ok.wl a (F a z)).1,λ_=>z⟩
   ·exact⟨ok.good a (ok.stay.free z),λw=>by obtain⟨_,m,q⟩:=ok.wl a w;rw[z] at q;cases q⟩
  ·obtain⟨i,x,l,h1,h2,Y,rfl,T⟩:=pos e
   obtain⟨q1,p,as,us,A,Q,hW,M,q4,J,L⟩:=f j i x l h1 h2 Y;refine⟨_,T,p,as,us,A,own h1 h2 Y p (.inl A),M,λn z=>by cases z;exact Q,J,L.step (λa vs ha z=>⟨own h1 h2 Y a (.inr ⟨p,us,A,J.o,L.parts_iff.mpr ha⟩),z⟩) (λ_ _ r=>cv r) λ_ _ r=>R r⟩
  ·obtain⟨i,x,l,h1,h2,Y,rfl,T⟩:=pos I
   obtain⟨N,O,P,C,X,E,rfl,Z⟩:=pos U;rw[T] at B;cases B;rw[Z] at e4;cases e4;have:=ok.uniq i N _ _ _ _ a Y E (f j i x l h1 h2 Y).1 (f j' N O P C X E).1 o1 o2;subst this;exact yD nd h1 C
variable{us:fe}{W':Addr->Prop}{H':Hp}
theorem Ok.unlend(ok:Ok K G H0 W env σ H){I:f4}{r:Nat->ed}{env':DE0}{X:St}(nd:is.Nodup)(hg:dI env is=↑ags)(hu:∀(j i:Nat),is[j]?=↑i->∃u,us[j]?=↑u/\σ[i]?=↑↑u)(Z:∀(j i:Nat) (k:AK) (l:Option Nat) (ps:fw),is[j]?=↑i->env[i]?=↑↑(.ag k l ps)->∃p as,us[j]?=↑(.ref p)/\gZ k (r j) p as/\∀n,l=↑n->gZ k (G.r n) p as)(hl:I.length=is.length)(ac:∀(j:Nat) (x y:Ag),ags[j]?=↑x->I[j]?=↑y->y.1=x.1)(st:Step (bF H env σ is) H W' H')(F:Ok K (nr G W (bF H env σ is) r) (fG H (bF H env σ is)) W' env' X H')(g:∀(j:Nat) (x:Ag),I[j]?=↑x->env'[j]?=↑↑(iI x j)) :
  Ok K G H0 (λa=>W' a\/(W a/\¬bF H env σ is a)) (cD env is I) σ H'/\Step W H (λa=>W' a\/(W a/\¬bF H env σ is a)) H' /\
   (∀ {d:D} {v:V},aQ K H' (Ow (nr G W (bF H env σ is) r) W') d v->aQ K H' (Ow G (λa=>W' a\/(W a/\¬bF H env σ is a))) d v):=by
 have lW:∀a,bF H env σ is a->W a:=λa=>ok.lentW;have P:∀a,W' a->bF H env σ is a\/H a=none:=st.ws;have n':∀a,W' a->W a->bF H env σ is a:=λa h w=>(P a h).elim id λz=>by obtain⟨_,m,q⟩:=ok.wl a w;rw[z] at q;cases q
 have aa:Step W H (λa=>W' a\/(W a/\¬bF H env σ is a)) H':=⟨λb o e n=>st.keep b o e λz=>n (lW b z),λa z=>by
  rcases z with z |z
  ·exact(P a z).imp (lW a) id
  ·exact .inl z.1⟩
 have back:∀ {j i:Nat} {y:Ag} {k:AK} {l:Option Nat} {ps:fw},is[j]?=↑i->I[j]?=↑y->env[i]?=↑↑(.ag k l ps) ->
   ∃u p as vs,σ[i]?=↑↑u/\X[j]?=↑↑u/\u=.ref p/\W' p/\(p::as).Nodup/\(∀n,l=↑n->gZ y.1 (G.r n) p as)/\cI K H' y.1 p vs/\aO K (nr G W (bF H env σ is) r) W' H' y.2 as vs:=λ{j i y k l ps} U E J=>by
  obtain⟨x,l',h1,h2⟩:=qd hg U;rw[J] at h2;cases h2;obtain⟨v,O,p,as,vs,rfl,hW,n1,hr,hk,hp⟩:=F.slot j _ (g j y E);obtain⟨u,M,N⟩:=hu j i U;obtain⟨p0,Q,T,t,z5⟩:=Z j i _ _ _ U J;rw[M] at T;cases T;have hy:=ac j x y h1 E;have Y:gZ y.1 (r j) p as:=hr j rfl;have same:p=p0/\(as=Q\/∃c fs,y.1=.ins true c fs):=by
   rw[<-hy] at t;generalize y.1=kk at Y t;cases kk with
   |ls=>have Y:r j=p::as:=Y;have t:r j=p0::Q:=t;rw[Y] at t;cases t;exact⟨rfl,.inl rfl⟩
   |ins b c fs =>
     cases b with
     |true=>have Y:r j=[p]:=Y;have t:r j=[p0]:=t;rw[Y] at t;cases t;exact⟨rfl,.inr ⟨c,fs,rfl⟩⟩
     |false=>have Y:r j=p::as:=Y;have t:r j=p0::Q:=t;rw[Y] at t;cases t;exact⟨rfl,.inl rfl⟩
  obtain⟨rfl,hs⟩:=same;refine⟨_,p,as,vs,N,O,rfl,hW,n1,λn hn=>?_,hk,hp⟩;have z6:=z5 n hn;rw[<-hy] at z6;rcases hs with rfl | ⟨c,fs,q⟩
  ·exact z6
  ·rw[q] at z6 ⊢;exact z6
 have up:∀(a:Addr) (us:fe),Ow (nr G W (bF H env σ is) r) W' a->Rd H' a (.lst us)->Ow G (λa=>W' a\/(W a/\¬bF H env σ is a)) a/\Rd H' a (.lst us):=λa us o h=>⟨⟨o.1.1,λz=>z.elim o.2 λy=>y.2 (o.1.2 y.1)⟩,h⟩;have cv:∀ {d:D} {v:V},aQ K H' (Ow (nr G W (bF H env σ is) r) W') d v->aQ K H' (Ow G (λa=>W' a\/(W a/\¬bF H env σ is a))) d v:=λrp=>rp.mono (λ_ _ h=>h) up;have an:∀ {d:fh} {v:fe},aF K H' (Ow (nr G W (bF H env σ is) r) W') d v->aF K H' (Ow G (λa=>W' a\/(W a/\¬bF H env σ is a))) d v:=λrp=>rp.mono (λ_ _ h=>h) up;have A:∀ {i:Nat} {s:Sl} {v:V},i∉is->env[i]?=↑↑s->σ[i]?=↑↑v->∀a,aV H s v a->W a/\¬bF H env σ is a:=λ{i s v} hi e U a o=>by
  obtain⟨v',E,q⟩:=ok.slot i s e;rw[U] at E;cases E;refine⟨q.owns o,λz=>?_⟩;obtain⟨i',s',v',B,M,N,T⟩:=z;exact hi ((ok.uniq i i' s s' _ _ a e M U N o T) ▸ B)
 have R:∀ {i:Nat} {s:Sl} {v:V},i∉is->env[i]?=↑↑s->σ[i]?=↑↑v->∀a (m:Mo),aV H s v a->H a=↑m.out->(W' a\/(W a/\¬bF H env σ is a))/\H' a=↑m.out:=λ{i s v} hi e U a m o q=>by
  have z:=A hi e U a o;exact⟨.inr z,st.keep a _ q z.2⟩
 have C:∀ {i:Nat} {s:Sl} {v:V} {a:Addr},i∉is->env[i]?=↑↑s->σ[i]?=↑↑v->aV H' s v a->aV H s v a:=λ{i s v a} hi e U o=>by
  obtain⟨v',E,q⟩:=ok.slot i s e;rw[U] at E;cases E;refine q.back (λl z w m N=>?_) o;refine st.keep l _ N λy=>?_;obtain⟨i',s',v',B,M,T,t⟩:=y;have ol:aV H s v l:=by
   cases s with
   |sh d=>exact o.elim |ow ds=>exact z |o2 dss=>exact .inl z |ag k r ps=>exact .inl z |al _ _=>exact o.elim |ro _ _=>exact o.elim
  exact hi ((ok.uniq i i' s s' _ _ l e M U T ol t) ▸ B)
 have S:∀ {i:Nat} {s:Sl},(cD env is I)[i]?=↑↑s->(i∉is/\env[i]?=↑↑s)\/∃(j:Nat) (y:Ag) (k:AK) (l:Option Nat) (ps:fw),is[j]?=↑i/\I[j]?=↑y/\env[i]?=↑↑(.ag k l ps)/\s=.ag y.1 l y.2:=λ{i s} e=>by
  by_cases hi:i∈is
  ·obtain⟨j,hj,ej⟩:=List.getElem_of_mem hi
   have U:is[j]?=↑i:=by simp[hj,ej]
   obtain⟨x,l,h1,h2⟩:=qd hg U;have h3:I[j]?=↑(I[j]'∅):=by simp[hl,hj]
   rw[zn nd U h3 h2] at e;cases e;exact .inr ⟨j,_,_,l,_,U,h3,h2,rfl⟩
  ·rw[vj hi] at e;exact .inl ⟨hi,e⟩
 refine⟨⟨λb o e=>?_,ok.good,λa z=>?_,λi s e=>?_,λi i' s s' v v' a U E J O o1 o2=>?_,by rw[z9];exact ok.len⟩,aa,cv⟩
 ·exact st.keep b o (ok.stay b o e) λz=>by rw[(ok.wl b (lW b z)).1] at e;cases e
 ·rcases z with z |z
  ·refine⟨?_,(F.wl a z).2⟩
   rcases P a z with y |y
   ·exact(ok.wl a (lW a y)).1
   ·exact ok.stay.free y
  ·obtain⟨q,m,hm⟩:=ok.wl a z.1
   exact⟨q,m,st.keep a _ hm z.2⟩
 ·rcases S e with⟨hi,e⟩ | ⟨j,y,k,l,ps,U,E,J,rfl⟩
  ·obtain⟨v,U,q⟩:=ok.slot i s e
   exact⟨v,U,ok.slstep aa q (R hi e U)⟩
  ·obtain⟨u,p,as,vs,L,_,rfl,hW,n1,ap,hk,hp⟩:=back U E J
   exact⟨_,L,p,as,vs,rfl,.inl hW,n1,ap,hk,hp.step (λa ws ha z=>⟨.inl (hp.own ha).1,z⟩) (λ_ _ r=>cv r) λ_ _ r=>an r⟩
 ·rcases S U with⟨hi,f1⟩ | ⟨j,y,k,l,ps,f1,f2,f3,rfl⟩ <;> rcases S E with⟨B,f⟩ | ⟨j',y',k',l',ps',f,f2',f3',rfl⟩
  ·exact ok.uniq i i' s s' v v' a f1 f J O (C hi f1 J o1) (C B f O o2)
  ·exfalso
   obtain⟨M,N⟩:=A hi f1 J a (C hi f1 J o1);obtain⟨u,p,as,vs,L,q2,_⟩:=back f f2' f3';rw[O] at L;cases L;obtain⟨v0,w1,w2⟩:=F.slot j' _ (g j' y' f2');rw[q2] at w1;cases w1;exact N (n' a (w2.owns o2) M)
  ·exfalso
   obtain⟨M,N⟩:=A B f O a (C B f O o2);obtain⟨u,p,as,vs,L,q2,_⟩:=back f1 f2 f3;rw[J] at L;cases L;obtain⟨v0,w1,w2⟩:=F.slot j _ (g j y f2);rw[q2] at w1;cases w1;exact N (n' a (w2.owns o1) M)
  ·obtain⟨u,p,as,vs,L,q2,_⟩:=back f1 f2 f3
   obtain⟨u',p',a0,vs',ab,ar,_⟩:=back f f2' f3';rw[J] at L;cases L;rw[O] at ab;cases ab;have:=F.uniq j j' _ _ _ _ a (g j y f2) (g j' y' f2') q2 ar o1 o2;subst this;rw[f1] at f;cases f;rfl
def dY(P:Program)(w:World)(K:e5)(mg:Str->eb)(base:Heap)(cn m:Str)(k:Nat)(sp:Sp):Prop :=
 ∃C D fd ps,fM K C/\gH K C m D/\bD P w K mg base (cP P w) k D fd ps sp/\Binds K fd ps []/\Cl K cn C
def k4(K:e5)(cn m:Str):Prop:=∃C,fM K C/\cU K C m/\Cl K cn C
def iV(P:Program)(w:World)(K:e5)(mg:Str->eb)(base:Heap)(x:Str)(k:Nat)(sp:Sp):Prop :=
 ∃C D fd ps,Mk K C D/\bD P w K mg base (cP P w) k D fd ps sp/\mg x=↑(.ref C)/\Binds K fd ps []/\Cl K x C/\(x==("__debug__" : Str))=false
def f_(X:Cx)(σ:St):XK:=λcls _ H'=>∀pins H s C ea s',cls=.ref C->Inv X pins σ H s->fZ X.prog X.w X.stack H s C ea H' s'->X.xe (.ref ea) s'
variable{Q:VK}{vs:fe}{X:Cx}{k:Nat}{f:Addr}{fd:FuncData}{ps:d3}{sp:Sp}
theorem zm{pins:e9}{s:Shared}{us:d5}(F:bD X.prog X.w X.K X.mg X.base (cP X.prog X.w) k f fd ps sp)(U:aP k X.A)(V:Binds X.K fd ps [])(I:Inv X pins σ H s)(r:aL vs us)(h:sp vs H Q (f_ X σ)):wpAny (model X.prog X.w) X.A (call (.ref f) us) (EP X pins σ Q) X.xe s:=by
 have Y:(us++[]).length=ps.length:=by rw[cr,<-r.length];exact F.len _ _ _ _ h
 have S:=V s us I.kIn Y;rw[cr] at S;refine ke (i5 (F.run X.A X.stack s H ⟨us,[]⟩ us vs Q (f_ X σ) U I.env0 S r h) λr s' D=>?_);cases r with
 |error e =>
   obtain⟨ea,C,H',rfl,fl,z⟩:=D;exact z pins H s C ea s' rfl I fl
 |ok fl =>
   cases fl with
   |ret u=>exact I.after D |next=>exact False.elim D |brk=>exact False.elim D |cont=>exact False.elim D
def AB(X:Cx)(sp:Sp)(t:TA):TE:=λσ H Q=>t σ H λvs H1=>sp vs H1 Q (f_ X σ)
variable{x:Str}{p pos:Pos}{e:Expr}{es:er}{t:TA}
def vy(F:bD X.prog X.w X.K X.mg X.base (cP X.prog X.w) k f fd ps sp)(V:aP k X.A)(Y:Gl X x)(a:X.mg x=↑(.ref f))(b:PySem.W.keepIn X.K (.ref f)=true)(c:Binds X.K fd ps [])(d:PA X (e::es) t)(D:(x==("__debug__" : Str))=false:=by decide)(g:‹starEach (e::es) X.env=(false,eval e X.env)::starEach es X.env›)(S:‹(backTo pos (starEach es X.env)).any (·.1)=false›) :
  PE X (.Call (.Name x p) (e::es) [] pos) (AB X sp t):=by
 intro pins s σ H Q I h;refine fm (qe I Y a ?_ D);refine gc (h₀:=X.base) I.ok.mod.kin b (aW (d pos pins s σ H _ I h) λus j i=>?_) g S;obtain⟨vs,H1,U,r,q⟩:=i;refine⟨U.kIn,?_⟩;exact zm F V c U r q
def vb(X:Cx)(C:Addr)(m:Str)(sp:Sp)(ta:TE)(t:TA):TE:=λσ H Q=>ta σ H λx H1=>∃a dx fs,x=.ref a/\H1 a=↑(.ins C dx fs)/\fs.lookup m=none/\t σ H1 λvs H2=>sp (x::vs) H2 Q (f_ X σ)
variable{pl:Sem Bool}{C:Addr}{m:Str}{apos:Pos}{ta:TE}
def AC(d:PE X o ta)(c:fM X.K C)(V:gH X.K C m f)(F:bD X.prog X.w X.K X.mg X.base (cP X.prog X.w) k f fd ps sp)(g:aP k X.A)(i:Binds X.K fd ps [])(j:PA X (e::es) t)(D:‹starEach (e::es) X.env=(false,eval e X.env)::starEach es X.env›)(S:‹(backTo pos (starEach es X.env)).any (·.1)=false›)(n:eval (.Call (.Attribute o m apos) (e::es) [] pos) X.env=(do
   let ov <-eval o X.env
   standAt apos.atName
   let (f,first) <-holding [ov] (getMethod ov m pl)
   callWith pos f first (backTo pos (starEach (e::es) X.env)) (backToKw pos (keywordEach [] X.env))):=by rfl) :
  PE X (.Call (.Attribute o m apos) (e::es) [] pos) (vb X C m sp ta t):=by
 intro pins s σ H Q I h;refine PySem.W.methodCall_KW (pl:=pl) (aW (d pins s σ H _ I h) λu p U=>?_) n;obtain⟨x,H1,Y,v,a,dx,fs,ex,ea,l,q⟩:=U;subst ex;obtain rfl:u=Value.ref a:=v;refine pJ Y ea c V l ?_;refine gc (first:=[.ref a]) (h₀:=X.base) I.ok.mod.kin V.kp (aW (j pos pins p σ H1 _ Y q) λus s2 U=>?_) D S;obtain⟨vs,H2,b,r,y⟩:=U;refine⟨b.kIn,?_⟩;exact zm (us:=.ref a::us) (vs:=.ref a::vs) F g i b (.cons rfl r) y
def rX(U:PE X o ta)(c:fM X.K C)(S:gH X.K C m f)(F:bD X.prog X.w X.K X.mg X.base (cP X.prog X.w) k f fd ps sp)(V:aP k X.A)(Y:Binds X.K fd ps [])(b:eval (.Call (.Attribute o m apos) [] [] pos) X.env=(do
   let ov <-eval o X.env
   standAt apos.atName
   let (f,first) <-holding [ov] (getMethod ov m pl)
   callWith pos f first (backTo pos (starEach [] X.env)) (backToKw pos (keywordEach [] X.env))):=by rfl) :
  PE X (.Call (.Attribute o m apos) [] [] pos) (vb X C m sp ta iO):=by
 intro pins s σ H Q I h;refine PySem.W.methodCall_KW (pl:=pl) (aW (U pins s σ H _ I h) λu g d=>?_) b;obtain⟨x,H1,D,e,a,dx,fs,ex,ea,l,q⟩:=d;subst ex;obtain rfl:u=Value.ref a:=e;refine pJ D ea c S l ?_;exact PySem.W.callWith_K0 (first:=[.ref a]) D.kIn S.kp (zm (us:=[.ref a]) (vs:=[.ref a]) F V Y D (.cons rfl .nil) q)
def AD(X:Cx)(C:Addr)(sp:Sp)(t:TA):TE:=λσ H Q=>t σ H λvs H1=>∀x dx,H1 x=none->H1 dx=none->dx≠x ->
 sp (.ref x::vs) (aR (aR H1 dx (.own x)) x (.ins C dx [])) (λv H2=>v=.non/\Q (.ref x) H2) (f_ X σ)
theorem AE(M:Mk X.K C f)(F:bD X.prog X.w X.K X.mg X.base (cP X.prog X.w) k f fd ps sp)(g:aP (k+1) X.A)(i:Gl X x)(j:X.mg x=↑(.ref C))(l:Binds X.K fd ps [])(m:PA X (e::es) t)(U:(x==("__debug__" : Str))=false:=by decide)(n:‹starEach (e::es) X.env=(false,eval e X.env)::starEach es X.env›)(Y:‹(backTo pos (starEach es X.env)).any (·.1)=false›) :
  PE X (.Call (.Name x p) (e::es) [] pos) (AD X C sp t):=by
 intro pins o σ H0 Q a q;refine fm (qe a i j ?_ U);refine gc (h₀:=X.base) a.ok.mod.kin M.kp (aW (m pos pins o σ H0 _ a q) λus s y=>?_) n Y;obtain⟨vs,H,I,r,h⟩:=y;refine⟨I.kIn,?_⟩;have b:=h (s.heap.objs.size+1) s.heap.objs.size (I.hok.fresh (j4 _)) (I.hok.fresh (bn _)) (bo (dw _));have S:=Inv.made (C:=C) I;have c:aL (V.ref (s.heap.objs.size+1)::vs) (Value.ref (s.heap.objs.size+1)::us):=.cons rfl r;have B:((Value.ref (s.heap.objs.size+1)::us)++[]).length=ps.length:=by rw[cr,<-c.length];exact F.len _ _ _ _ b
 have d:=l ⟨_,s.gens,s.drawn,s.toks,s.os⟩ (Value.ref (s.heap.objs.size+1)::us) S.kIn B;rw[cr] at d;refine ke (wS (f:=f) I.kIn M.makes M.init (im.mp M.fn) (i5 (F.run _ X.stack _ _ ⟨Value.ref (s.heap.objs.size+1)::us,[]⟩ (Value.ref (s.heap.objs.size+1)::us) _ _ (f_ X σ) (g.make C us [])
  (S.env0.make C us []) d c b) λr s' D=>?_))
 cases r with
 |error e =>
   obtain⟨ea,E,H',rfl,fl,z⟩:=D;exact z pins _ _ E ea s' rfl S fl
 |ok fl =>
   cases fl with
   |ret u =>
     obtain⟨v,H',G,J,L,N⟩:=S.after D;subst L;exact⟨J,⟨V.ref (s.heap.objs.size+1),H',G,rfl,N⟩⟩
   |next=>exact False.elim D |brk=>exact False.elim D |cont=>exact False.elim D
abbrev XF:=DE0->Option (Str×DE0)
def mW(X:Cx)(G:Gd)(H0:Hp)(W:Addr->Prop)(H:Hp)(σ:St)(c:Str)(env':DE0):Prop:=∀W' H' C,Cl X.K c C->Step W H W' H'->Ok X.K G H0 W' env' σ H'->∀pins e s',XS X pins σ H' C e s'->X.xe (.ref e) s'
def gU(X:Cx)(G:Gd)(H0:Hp)(x:XF)(σ:St)(H:Hp):Prop:=DP X.K G H0 x (λW env c env'=> mW X G H0 W H σ c env') σ H
structure JX (X:Cx) (G:Gd) (H0:Hp) (e:Expr) (x:XF):Prop where
 out:PE X e (λσ H _=>gU X G H0 x σ H)
structure kX (X:Cx) (G:Gd) (H0:Hp) (es:er) (x:XF):Prop where
 out:PA X es (λσ H _=>gU X G H0 x σ H)
structure kY (X:Cx) (G:Gd) (H0:Hp) (s:Stmt) (x:XF):Prop where
 out:PS X s (λ_ σ H=>gU X G H0 x σ H)
@[simp] def dJ(x:XF)(g:FS):FS:=λe=>match x e with |some r=>↑(.xc r.1,r.2) |none=>g e
@[simp] def qi(f:FE)(x:XF):XF:=λe=>(f e).bind λr=>x r.2
variable{f:FE}{x:XF}
def AF(h:gU X G H0 (qi f x) σ H)(S:∀v H1,gU X G H0 x σ H1->Q v H1):tD X.K G H0 f σ H Q:=by
 obtain⟨W,env,c,env',ok,q,k⟩:=h;cases e1:f env with
 |none=>simp[e1] at q |some r =>
   have q:x r.2=↑(c,env'):=by simpa[qi,e1] using q
   exact⟨W,env,r.1,r.2,ok,e1,λW1 v H1 U D _=>S v H1 ⟨W1,r.2,c,env',D,q,λW' H' C V s2 I=>k W' H' C V (U.trans s2) I⟩⟩
variable{g:FS}
def l7(U:dS X G H0 s g)(V:kY X G H0 s x):dS X G H0 s (dJ x g):=⟨λpins s' σ H D I Y=>by
 obtain⟨W,env,fl,env',ok,q,k⟩:=Y;unfold dJ at q;cases e1:x env with
 |none=>rw[e1] at q;exact U.out pins s' σ H D I ⟨W,env,fl,env',ok,q,k⟩ |some r =>
   rw[e1] at q;cases q;exact V.out pins s' σ H D I ⟨W,env,r.1,r.2,ok,e1,λW' H' C a st S=>k W' σ H' C a st S⟩⟩
def rg(h:JX X G H0 e x)(D:‹swapsWith e none pos.line X.env=pure false›):kY X G H0 (.Expr e pos) x:=⟨(o_ h.out D).imp λ_ _ _ z=>z⟩
def t9(h:JX X G H0 e x):kY X G H0 (.Return ↑e pos) x:=⟨(ze h.out).imp λ_ _ _ z=>z⟩
variable{F:FA}
def AG(D:JX X G H0 e x)(S:d_ X G H0 es F)(U:‹starEach (e::es) X.env=(false,eval e X.env)::starEach es X.env›):kX X G H0 (e::es) x:=⟨λpos pins s σ H Q I h=>(j6 D.out S.out U) pos pins s σ H Q I h⟩
def AH(D:aN X G H0 e f)(S:kX X G H0 es x)(U:‹starEach (e::es) X.env=(false,eval e X.env)::starEach es X.env›):kX X G H0 (e::es) (qi f x):=⟨λpos pins s σ H Q I h=>(j6 D.out S.out U) pos pins s σ H Q I (AF h λ_ _ z=>z)⟩
variable{c:Str}
def Cl.inj{D:Addr}(h:Cl K c C)(h':Cl K c D):C=D:=by
 unfold Cl at h h';rw[h] at h';cases h';rfl
def pv(K:e5)(O:Addr->Prop)(H:Hp)(ags:f4)(us:fe):Prop :=
 us.length=ags.length/\∀(j:Nat) (x:Ag) (u:V),ags[j]?=↑x->us[j]?=↑u->∃p vs,u=.ref p/\cI K H x.1 p vs/\aS K (gd O) cA H x.2 vs
def eG(K:e5)(m:f4->fh->fk)(x:f4->fh->et):Sp:=λvs H Q E =>
 ∃(O:Addr->Prop) (ags:f4) (us:fe) (ds:fh) (ws:fe),vs=us++ws/\pv K O H ags us/\aF K H O ds ws /\
  ((∃d,m ags ds=↑d/\∀v H',aU H H'->aQ K H' (λa=>O a\/H a=none) d v->Q v H')\/∃c,x ags ds=↑c/\∀C H',Cl K c C->aU H H'->E (.ref C) none H')
def ju(n:Nat)(ags:f4)(ds:fh):DE0:=ags.map (λx=>↑(Sl.ro x.1 x.2))++jz (n-ags.length) ds
def bG(n p ar:Nat)(g:FS):f4->fh->fk:=λags ds=>if ags.length=p/\ds.length=ar then(match g (ju n ags ds) with |some (.rt d,_)=>↑d |some (.nx,_)=>some .non |_=>none) else none
def xQ(n p ar:Nat)(g:FS):f4->fh->et:=λags ds=>if ags.length=p/\ds.length=ar then(match g (ju n ags ds) with |some (.xc c,_)=>↑c |_=>none) else none
variable{O O':Addr->Prop}
def kj(h:∀a,O a->O' a):(∀(d:D) (v:V),aQ K H O d v->aQ K H O' d v)/\∀(d:fh) (v:fe),aF K H O d v->aF K H O' d v :=
 ⟨λd v r=>r.mono (λ_ _ h=>h) λa us o q=>⟨h a o,q⟩,λd v r=>r.mono (λ_ _ h=>h) λa us o q=>⟨h a o,q⟩⟩
variable{ws:fe}{ds:fh}{N:d3}
theorem rY(I:pv K O H ags us)(r:aF K H O ds ws)(g:us.length<=N.length) :
  Ok K (gd λa=>O a\/H a=none) H cA (ju N.length ags ds) (i4 N (us++ws)) H:=by
 have U:=rh (N:=N.drop us.length) r;have S:=U.len;have es:i4 N (us++ws)=us.map some++i4 (N.drop us.length) ws:=by
  unfold i4;rw[db,c8,bd,eo,Nat.sub_sub]
 have b:ju N.length ags ds=ags.map (λx=>↑(Sl.ro x.1 x.2))++jz (N.drop us.length).length ds:=by unfold ju;rw[eo,I.1]
 rw[es,b];refine⟨aU.refl _,U.good,U.wl,λi s e=>?_,λi j h s2 k l a D _ m _ o _=>?_,?_⟩
 ·by_cases hi:i<ags.length
  ·rw[ao (by simpa using hi),bh] at e
   cases D:ags[i]? with
   |none=>rw[D] at e;cases e
   |some x =>
     rw[D] at e;cases e;have V:us[i]?=↑(us[i]'(by rw[I.1];exact hi)):=by simp[I.1,hi]
     obtain⟨p,vs,h1,h2,c⟩:=I.2 i x _ D V;refine⟨_,by rw[ao (by rw[af,I.1];exact hi),bh,V];rfl,p,vs,h1,λz=>z,h2,c.step (λa vs n z=>⟨n,z⟩) (λd v q=>(kj λa z=>⟨.inl z.1,λz=>z⟩).1 d v q) λd v q=>(kj λa z=>⟨.inl z.1,λz=>z⟩).2 d v q⟩
  ·rw[bj (by simpa using hi),af] at e
   obtain⟨v,Y,f⟩:=U.slot _ s e;rw[<-I.1] at Y;exact⟨v,by rw[bj (by rw[af,I.1];lia),af];exact Y,f⟩
 ·by_cases hi:i<ags.length
  ·rw[ao (by simpa using hi),bh] at D
   cases q:ags[i]? with
   |none=>rw[q] at D;cases D
   |some x=>rw[q] at D;cases D;exact o.elim
  ·rw[bj (by simpa using hi)] at D
   obtain⟨d,_,rfl⟩:=wn D;exact o.elim
 ·rw[bd,bd,af,af,S,I.1]
variable{x qual:Str}{st:Stmt}{P:Program}{w:World}{mg:Str->eb}{base:Heap}
theorem rZ{f:Addr}{n p ar:Nat}(F:fA K x qual st f fd)(S:mq N ps (d4 st))(q:n=N.length)(t:p+ar=ps.length)(Y:∀(cdv:Value) (A:Around) (outer:ep) (s:Shared) (H:Hp) (E:XK) (G:Gd) (H0:Hp),aP k (A.deeper (envOfC qual (d4 st) s.heap.objs.size f cdv)) ->
   dU (aX (cP P w) P w K mg base N qual (d4 st) f cdv A outer s H E) G H0 (jg st) g):bD P w K mg base (cP P w) (k+1) f fd ps (eG K (bG n p ar g) (xQ n p ar g)):=by
 subst q;have u:ps.length<=N.length:=by have:=congrArg List.length S.pre;rw[d6] at this;lia
 have b:∀ {O:Addr->Prop} {H:Hp} {ags:f4} {us:fe} {ds:fh} {ws:fe},pv K O H ags us->aF K H O ds ws->(ags.length=p/\ds.length=ar)->(us++ws).length=ps.length:=λU r h=>by rw[bd,U.1,h.1,<-r.length,h.2,t]
 refine F.okX S (λvs H Q E h=>?_) (λcdv A outer s H vs Q E y h=>?_)
 ·obtain⟨O,ags,us,ds,ws,rfl,U,r,h⟩:=h
  refine b U r ?_;rcases h with⟨d,e,_⟩ | ⟨c,e,_⟩
  ·unfold bG at e;split at e
   ·assumption
   ·cases e
  ·unfold xQ at e;split at e
   ·assumption
   ·cases e
 ·obtain⟨O,ags,us,ds,ws,rfl,U,r,h⟩:=h
  refine⟨_,(Y cdv A outer s H E (gd λa=>O a\/H a=none) H y).out,?_⟩;rcases h with⟨d,e,k⟩ | ⟨c,e,k⟩
  ·unfold bG at e
   split at e;case isFalse=>cases e
   rename_i m;have l:=rY (N:=N) U r (by rw[U.1,m.1];lia);split at e
   ·rename_i d' env' i
    cases e;exact⟨cA,_,_,env',l,i,λW' j v H' st I z=>k v H' I.stay (z.mono (λ_ _ h=>h) λa us o h=>⟨o.1,h⟩)⟩
   ·rename_i env' i
    cases e;exact⟨cA,_,_,env',l,i,λW' j H' st I=>k .non H' I.stay .non⟩
   ·cases e
  ·unfold xQ at e
   split at e;case isFalse=>cases e
   rename_i m;have l:=rY (N:=N) U r (by rw[U.1,m.1];lia);split at e
   ·rename_i J env' i
    cases e;exact⟨cA,_,_,env',l,i,λW' j H' B C st I pins e s' xs=>mI xs (k B H' C I.stay)⟩
   ·cases e
def hO(K:e5)(m:f4->fh->gb)(x:f4->fh->Option (Str×f4)):Sp:=λvs H Q E =>
 ∃(G:Gd) (W:Addr->Prop) (U:Hp) (ags:f4) (us:fe) (ds:fh) (ws:fe),vs=us++ws/\us.length=ags.length/\Ok K G U W (ky ags) (us.map some) H/\aF K H (Ow G W) ds ws /\
  ((∃d I, m ags ds = ↑(d, I) /\ ∀W' env' S v H', Step W H W' H' -> Ok K G U W' env' S H' -> (∀(j : Nat) (x : Ag), I[j]? = ↑x -> env'[j]? = ↑↑(iI x j)) -> aQ K H' (Ow G W') d v -> Q v H') \/
   ∃c I,x ags ds=↑(c,I)/\∀C W' env' S H',Cl K c C->Step W H W' H'->Ok K G U W' env' S H'->(∀(j:Nat) (x:Ag),I[j]?=↑x->env'[j]?=↑↑(iI x j))->E (.ref C) none H')
def m6(n:Nat)(ags:f4)(ds:fh):DE0:=ky ags++jz (n-ags.length) ds
def eI(e:DE0):Nat->ee->Option f4
 |_,[]=>↑[] |j,_::r=>match e[j]? with |some ↑(.ag k ↑j' ps)=>if j'=j then(eI e (j+1) r).map λt=>(k,ps)::t else none |_=>none
def dZ(n p ar:Nat)(g:FS):f4->fh->gb:=λags ds=>if ags.length=p/\ds.length=ar then(match g (m6 n ags ds) with |some (.rt d,e)=>(eI e 0 (List.range p)).map λt=>(d,t) |some (.nx,e)=>(eI e 0 (List.range p)).map λt=>(.non,t) |_=>none) else none
def xL(n p ar:Nat)(g:FS):f4->fh->Option (Str×f4):=λags ds=>if ags.length=p/\ds.length=ar then(match g (m6 n ags ds) with |some (.xc c,e)=>(eI e 0 (List.range p)).map λt=>(c,t) |_=>none) else none
theorem vi{e:DE0}:∀ {l:ee} {i:Nat} {ags:f4},eI e i l=↑ags->ags.length=l.length/\∀(j:Nat) (x:Ag),ags[j]?=↑x->e[i+j]?=↑↑(iI x (i+j))
 | [],_,_,h=>by cases h;exact⟨rfl,λj x z=>by simp at z⟩
 |_::r,i,ags,h=>by
   unfold eI at h;split at h
   ·rename_i k D ps q
    split at h
    ·rename_i I
     subst I;cases e2:eI e (D+1) r with
     |none=>rw[e2] at h;cases h
     |some t =>
       rw[e2] at h;cases h;obtain⟨h1,h2⟩:=vi e2;refine⟨by rw[ak,ak,h1],λj x z=>?_⟩;cases j with
       |zero=>simp at z;subst z;exact q |succ j =>
         have:=h2 j x (by simpa using z);rwa [show D+1+j=D+(j+1) by lia] at this
    ·cases h
   ·cases h
theorem AI{I:Hp}(ok:Ok K G I W (ky ags) (us.map some) H)(S:us.length=ags.length)(r:aF K H (Ow G W) ds ws) :
  Ok K G I W (m6 N.length ags ds) (i4 N (us++ws)) H:=by
 have U:(ky ags).length=us.length:=by rw[rS,S]
 have es:i4 N (us++ws)=us.map some++i4 (N.drop us.length) ws:=by
  unfold i4;rw[db,c8,bd,eo,Nat.sub_sub]
 have g:m6 N.length ags ds=ky ags++jz (N.drop us.length).length ds:=by unfold m6;rw[eo,S]
 have h:=rh (N:=N.drop us.length) (O:=Ow G W) r;rw[es,g];have D:∀ {i:Nat} {s:Sl},(ky ags++jz (N.drop us.length).length ds)[i]?=↑↑s->(i<us.length/\(ky ags)[i]?=↑↑s)\/(us.length<=i/\∃d,ds[i-us.length]?=↑d/\s=.sh d):=λ{i s} e=>by
  by_cases hi:i<us.length
  ·rw[ao ∅] at e;exact .inl ⟨hi,e⟩
  ·rw[bj ∅,U] at e
   obtain⟨d,q,z⟩:=wn e;exact .inr ⟨by lia,d,q,z⟩
 refine⟨ok.stay,ok.good,ok.wl,λi s e=>?_,λi j k s2 l m a n o V Y b c=>?_,?_⟩
 ·rcases D e with⟨hi,e⟩ | ⟨hi,d,q,rfl⟩
  ·obtain⟨v,h1,h2⟩:=ok.slot i s e
   exact⟨v,by rw[ao (by simpa using hi)];exact h1,h2⟩
  ·obtain⟨v,h1,h2⟩:=r.get q
   refine⟨v,?_,h2⟩;rw[bj (by simpa using hi),af];unfold i4;rw[ao (by simpa using(ah.mp h1).1),bh,h1];rfl
 ·rcases D n with⟨hi,p⟩ | ⟨hi,d,q,rfl⟩
  ·rcases D o with⟨f,t⟩ | ⟨f,d,q,rfl⟩
   ·rw[ao (by simpa using hi)] at V
    rw[ao (by simpa using f)] at Y;exact ok.uniq i j k s2 l m a p t V Y b c
   ·exact c.elim
  ·exact b.elim
 ·rw[bd,bd,U,af,h.len]
theorem r_{f:Addr}{n p ar:Nat}(F:fA K x qual st f fd)(S:mq N ps (d4 st))(i:n=N.length)(l:p+ar=ps.length)(U:∀(cdv:Value) (A:Around) (outer:ep) (s:Shared) (H:Hp) (E:XK) (G:Gd) (H0:Hp),aP k (A.deeper (envOfC qual (d4 st) s.heap.objs.size f cdv)) ->
   dU (aX (cP P w) P w K mg base N qual (d4 st) f cdv A outer s H E) G H0 (jg st) g):bD P w K mg base (cP P w) (k+1) f fd ps (hO K (dZ n p ar g) (xL n p ar g)):=by
 subst i;refine F.okX S (λvs H Q E h=>?_) (λcdv A outer s H vs Q E m h=>?_)
 ·obtain⟨G,W,b,ags,us,ds,ws,rfl,Y,ok,r,h⟩:=h
  have:ags.length=p/\ds.length=ar:=by
   rcases h with⟨d,t,e,_⟩ | ⟨c,t,e,_⟩
   ·unfold dZ at e;split at e
    ·assumption
    ·cases e
   ·unfold xL at e;split at e
    ·assumption
    ·cases e
  rw[bd,Y,this.1,<-r.length,this.2,l]
 ·obtain⟨G,W,b,ags,us,ds,ws,rfl,Y,ok,r,h⟩:=h
  refine⟨_,(U cdv A outer s H E G b m).out,?_⟩;have a:=AI (N:=N) ok Y r;rcases h with⟨d,t,e,k⟩ | ⟨c,t,e,k⟩
  ·unfold dZ at e
   split at e;case isFalse=>cases e
   split at e
   ·rename_i d' env' V
    cases e2:eI env' 0 (List.range p) with
    |none=>rw[e2] at e;cases e
    |some t' =>
      rw[e2] at e;cases e;exact⟨W,_,_,env',a,V,λW' D v H' st I o=>k W' env' D v H' st I (λj x z=>by have:=(vi e2).2 j x z;rwa [Nat.zero_add] at this) o⟩
   ·rename_i env' V
    cases e2:eI env' 0 (List.range p) with
    |none=>rw[e2] at e;cases e
    |some t' =>
      rw[e2] at e;cases e;exact⟨W,_,_,env',a,V,λW' D H' st I=>k W' env' D .non H' st I (λj x z=>by have:=(vi e2).2 j x z;rwa [Nat.zero_add] at this) .non⟩
   ·cases e
  ·unfold xL at e
   split at e;case isFalse=>cases e
   split at e
   ·rename_i y env' V
    cases e2:eI env' 0 (List.range p) with
    |none=>rw[e2] at e;cases e
    |some t' =>
      rw[e2] at e;cases e;exact⟨W,_,_,env',a,V,λW' D H' q u st I pins e s' xs=>mI xs (k q W' env' D H' u st I λj x z=>by have:=(vi e2).2 j x z;rwa [Nat.zero_add] at this)⟩
   ·cases e
def bT(env:DE0):ee->Option f4
 | []=>↑[] |i::r=>match env[i]? with
   |some ↑(.ag k _ ps)=>(bT env r).map λt=>(k,ps)::t |some ↑(.ro k ps)=>(bT env r).map λt=>(k,ps)::t |_=>none
def cR(env:DE0)(is:ee):Prop:=∀i∈is,∃s,env[i]?=↑↑s
instance (env:DE0) (is:ee):Decidable (cR env is):=Classical.propDecidable _
variable{ps:fw}{as:ed}
def aO.ro(h:aO K G W H ps as us):aS K (gd (Ow G W)) cA H ps us:=by
 induction h with
 |nil=>exact .nil |d q _ ih=>exact .d ((kj λa z=>⟨z,λz=>z⟩).1 _ _ q) ih |o hW hl q _ ih=>exact .o (λz=>z) hl ((kj λa z=>⟨z,λz=>z⟩).2 _ _ q) ih
def aS.ro(h:aS K G W H ps us):aS K (gd (Ow G W)) cA H ps us :=
 h.step (λa vs _ z=>⟨λz=>z,z⟩) (λd v q=>(kj λa z=>⟨z,λz=>z⟩).1 d v q) λd v q=>(kj λa z=>⟨z,λz=>z⟩).2 d v q
def Ok.roAll(ok:Ok K G H0 W env σ H):∀ {is:ee} {ags:f4} {us:fe},bT env is=↑ags->us.length=is.length->(∀(j i:Nat),is[j]?=↑i->∃u,us[j]?=↑u/\σ[i]?=↑↑u)->pv K (Ow G W) H ags us
 | [],_,us,h,hl,_=>by cases h;exact⟨hl,λj x u e=>by simp at e⟩
 |i::r,ags,us,h,hl,hu=>by
   cases us with
   |nil=>simp at hl |cons u us =>
     obtain⟨o,b,c⟩:=hu 0 i rfl;simp at b;subst b;have U:∃k ps t,ags=(k,ps)::t/\bT env r=↑t/\∃p vs,u=.ref p/\cI K H k p vs/\aS K (gd (Ow G W)) cA H ps vs:=by
      unfold bT at h;split at h
      ·rename_i k l ps q
       cases h2:bT env r with
       |none=>rw[h2] at h;cases h
       |some t =>
         rw[h2] at h;cases h;obtain⟨v,D,p,as,vs,rfl,_,_,_,I,S⟩:=ok.slot i _ q;rw[c] at D;cases D;exact⟨k,ps,t,rfl,rfl,p,vs,rfl,I,S.ro⟩
      ·rename_i k ps q
       cases h2:bT env r with
       |none=>rw[h2] at h;cases h
       |some t =>
         rw[h2] at h;cases h;obtain⟨v,D,p,vs,rfl,_,I,S⟩:=ok.slot i _ q;rw[c] at D;cases D;exact⟨k,ps,t,rfl,rfl,p,vs,rfl,I,S.ro⟩
      ·cases h
     obtain⟨k,ps,t,rfl,h2,p,vs,rfl,I,S⟩:=U;obtain⟨d,f⟩:=ok.roAll (us:=us) h2 (by simpa using hl) λj g e=>by
      obtain⟨u,m,n⟩:=hu (j+1) g (by simpa using e);exact⟨u,by simpa using m,n⟩
     refine⟨by rw[ak,ak,d],λj x v Y a=>?_⟩;cases j with
     |zero=>simp at Y a;subst Y;subst a;exact⟨p,vs,rfl,I,S⟩ |succ j=>exact f j x v (by simpa using Y) (by simpa using a)
variable{v:FV}
def Ok.newRep(ok:Ok K G H0 W env σ H){d:D}{v:V}(r:aQ K H' (λa=>Ow G W a\/H a=none) d v):aQ K H' (Ow G W) d v :=
 r.mono (λ_ _ h=>h) λa us o h=>⟨o.elim id λz=>⟨ok.good a (ok.stay.free z),λw=>by obtain⟨_,m,q⟩:=ok.wl a w;rw[z] at q;cases q⟩,h⟩
def jG(X:Cx)(G:Gd)(H0:Hp)(is:ee)(F:FA):TA:=λσ H Q=>∃W env ds env',Ok X.K G H0 W env σ H/\cR env is/\F env=↑(ds,env') /\
 ∀W' us ws H',Step W H W' H'->Ok X.K G H0 W' env' σ H'->us.length=is.length->(∀(j i:Nat),is[j]?=↑i->∃u,us[j]?=↑u/\σ[i]?=↑↑u)->aF X.K H' (Ow G W') ds ws->Q (us++ws) H'
structure mX (X:Cx) (G:Gd) (H0:Hp) (is:ee) (es:er) (F:FA):Prop where
 out:PA X es (jG X G H0 is F)
def j0(h:d_ X G H0 es F):mX X G H0 [] es F:=⟨h.out.imp λσ H Q ⟨W,env,ds,env',ok,_,q,k⟩=>⟨W,env,ds,env',ok,q,λW' vs H' st D r=>k W' [] vs H' st D rfl (λj i e=>by simp at e) r⟩⟩
def gy(m:f4->fh->fk)(is:ee)(F:FA):FE:=λe=>if cR e is then(F e).bind λr=>(bT r.2 is).bind λags=>(m ags r.1).map λd=>(d,r.2) else none
def jy(x:f4->fh->et)(is:ee)(F:FA):XF:=λe=>if cR e is then(F e).bind λr=>(bT r.2 is).bind λags=>(x ags r.1).map λc=>(c,r.2) else none
variable{m:f4->fh->fk}{xx:f4->fh->et}
def sd:∀σ H Q,tD X.K G H0 (gy m is F) σ H Q->jG X G H0 is F σ H λvs H1=>eG X.K m xx vs H1 Q (f_ X σ):=λσ H Q U=>by
 obtain⟨W,env,d,env',ok,q,k⟩:=U;unfold gy at q;split at q;case isFalse=>cases q
 rename_i I;cases e1:F env with
 |none=>rw[e1] at q;cases q
 |some r =>
   rw[e1,ae] at q;cases e2:bT r.2 is with
   |none=>rw[e2] at q;cases q
   |some ags =>
     rw[e2,ae] at q;cases e3:m ags r.1 with
     |none=>rw[e3] at q;cases q
     |some d' =>
       rw[e3] at q;cases q;exact⟨W,env,r.1,r.2,ok,I,e1,λW1 us ws H1 V D Y a b=>⟨Ow G W1,ags,us,r.1,ws,rfl,D.roAll e2 Y a,b,.inl ⟨_,e3,λv H' S c=>k W1 v H' (V.trans (Step.same S)) (D.same S) (D.newRep c)⟩⟩⟩
def si:∀σ H (Q:VK),gU X G H0 (jy xx is F) σ H->jG X G H0 is F σ H λvs H1=>eG X.K m xx vs H1 Q (f_ X σ):=λσ H Q V=>by
 obtain⟨W,env,c,env',ok,q,k⟩:=V;unfold jy at q;split at q;case isFalse=>cases q
 rename_i S;cases e1:F env with
 |none=>rw[e1] at q;cases q
 |some r =>
   rw[e1,ae] at q;cases e2:bT r.2 is with
   |none=>rw[e2] at q;cases q
   |some ags =>
     rw[e2,ae] at q;cases e3:xx ags r.1 with
     |none=>rw[e3] at q;cases q
     |some c' =>
       rw[e3] at q;cases q;refine⟨W,env,r.1,r.2,ok,S,e1,λW1 us ws H1 Y D a b d=>⟨Ow G W1,ags,us,r.1,ws,rfl,D.roAll e2 a b,d,.inr ⟨_,e3,λC H' e U pins H2 s2 g ea s' f I fl=>?_⟩⟩⟩;cases f;exact k W1 H' C e (Y.trans (Step.same U)) (D.same U) pins ea s' (.inl ⟨s2,H2,I,fl⟩)
variable{jr:Nat}{p':Pos}
def ni(c:bV X.prog X.w X.K X.mg X.base (cP X.prog X.w) x k (eG X.K m xx))(S:aP jr X.A)(U:mX X G H0 is (e::es) F)(hkj:k<=jr:=by decide)(V:Gl X x:=by walk_at "g")(Y:‹starEach (e::es) X.env=(false,eval e X.env)::starEach es X.env›)(D:‹(backTo pos (starEach es X.env)).any (·.1)=false›) :
  aN X G H0 (.Call (.Name x p') (e::es) [] pos) (gy m is F):=let ⟨_,_,_,a,b,d,f,I⟩:=c;⟨(vy a (S.mono hkj) V b d f U.out I Y D).imp sd⟩
def nh(c:bV X.prog X.w X.K X.mg X.base (cP X.prog X.w) x k (eG X.K m xx))(S:aP jr X.A)(U:mX X G H0 is (e::es) F)(hkj:k<=jr:=by decide)(V:Gl X x:=by walk_at "g")(Y:‹starEach (e::es) X.env=(false,eval e X.env)::starEach es X.env›)(D:‹(backTo pos (starEach es X.env)).any (·.1)=false›) :
  JX X G H0 (.Call (.Name x p') (e::es) [] pos) (jy xx is F):=let ⟨_,_,_,a,b,d,f,I⟩:=c;⟨(vy a (S.mono hkj) V b d f U.out I Y D).imp si⟩
instance (a b:List AK):Decidable (a=b):=Classical.propDecidable _
def mi(m:f4->fh->gb)(is:ee)(F:FA):FE:=λe=>if cR e is then(F e).bind λr=>(dI r.2 is).bind λags=>(m ags r.1).bind λq=>if q.2.map (·.1)=ags.map (·.1) then ↑(q.1,cD r.2 is q.2) else none else none
variable{a b:Expr}
def AJ{a b:f4}(h:b.map (·.1)=a.map (·.1)):b.length=a.length/\∀(j:Nat) (x y:Ag),a[j]?=↑x->b[j]?=↑y->y.1=x.1:=by
 refine⟨by simpa using congrArg List.length h,λj x y D I=>?_⟩;have:=congrArg (λl:List AK=>l[j]?) h;simp[bh,D,I,Option.some.injEq] at this;exact this
variable{m:Str}
theorem AL{m:f4->fh->gb}{xx:f4->fh->Option (Str×f4)}(c:is.Nodup):∀σ H Q,tD X.K G H0 (mi m is F) σ H Q->jG X G H0 is F σ H λvs H1=>hO X.K m xx vs H1 Q (f_ X σ):=λσ H Q i=>by
 obtain⟨W,env,d,env',ok,q,k⟩:=i;unfold mi at q;split at q;case isFalse=>cases q
 rename_i U;cases e1:F env with
 |none=>rw[e1] at q;cases q
 |some r =>
   rw[e1,ae] at q;cases e2:dI r.2 is with
   |none=>rw[e2] at q;cases q
   |some ags =>
     rw[e2,ae] at q;cases e3:m ags r.1 with
     |none=>rw[e3] at q;cases q
     |some z =>
       rw[e3,ae] at q;split at q;case isFalse=>cases q
       rename_i V;cases q;obtain⟨l,n⟩:=AJ V;refine⟨W,env,r.1,r.2,ok,U,e1,λW1 us ws H1 p I P s t=>?_⟩;obtain⟨R,S,w,e,x,Y⟩:=I.lend c e2;have y:S=us:=by
        apply fj;intro j;by_cases f:j<is.length
        ·obtain⟨u,A,B⟩:=s j is[j] (by simp[f])
         obtain⟨T,C,g⟩:=e j is[j] (by simp[f]);rw[B] at g;cases g;rw[A,C]
        ·rw[dg ∅,dg ∅]
       subst y;refine⟨_,_,_,ags,S,r.1,ws,rfl,by rw[w,wb e2],Y,?_,.inl ⟨_,_,e3,λW' env' E v H' st b J L=>?_⟩⟩
       ·exact t.mono (λ_ _ h=>h) λa us o h=>⟨⟨⟨o.1,λz=>absurd z o.2⟩,λz=>o.2 (I.lentW z)⟩,h⟩
       ·obtain⟨M,N,O⟩:=I.unlend c e2 e x (by rw[l,wb e2]) n st b J
        exact k _ v H' (p.trans N) M (O L)
def gW(κ:AK)(e:DE0)(i:Nat):Prop:=(∃l ps,e[i]?=↑↑(.ag κ l ps))\/∃ps,e[i]?=↑↑(.ro κ ps)
instance (κ:AK) (e:DE0) (i:Nat):Decidable (gW κ e i):=Classical.propDecidable _
def fK(κ:AK)(i:Nat)(f:FE):FE:=λe=>if gW κ e i then f e else none
def xK(κ:AK)(i:Nat)(f:XF):XF:=λe=>if gW κ e i then f e else none
variable{i:Nat}
def gW.at{K:e5}{W:Addr->Prop}{H:Hp}{env:DE0}{σ:St}{c:Str}{fs:d3}{C:Addr}(ok:Ok K G H0 W env σ H)(h:gW (.ins false c fs) env i)(V:Cl K c C):∃p dx us,σ[i]?=↑↑(.ref p)/\H p=↑(.ins C dx (fs.zip us))/\fs.length=us.length:=by
 rcases h with⟨l,ps,e⟩ | ⟨ps,e⟩
 ·obtain⟨v,I,p,as,us,rfl,_,_,_,⟨Y,dx,S,D,U⟩,_⟩:=ok.slot i _ e
  rw[Cl.inj S V] at D;exact⟨p,dx,us,I,D,U⟩
 ·obtain⟨v,I,p,us,rfl,_,⟨Y,dx,S,D,U⟩,_⟩:=ok.slot i _ e
  rw[Cl.inj S V] at D;exact⟨p,dx,us,I,D,U⟩
variable{fs:d3}
def so(h:m∉fs):(fs.zip us).lookup m=none:=by
 induction fs generalizing us with
 |nil=>rfl |cons f r ih =>
   cases us with
   |nil=>rfl |cons u us =>
     rw[io,bw];have:(m==f)=false:=by simp;exact λz=>h (by simp[z])
     rw[this];exact ih λz=>h (by simp[z])
def sr(U:Cl X.K c C)(V:m∉fs)(h:∀σ H Q,tD X.K G H0 f σ H Q->jG X G H0 [i] F σ H λvs H1=>sp vs H1 Q (f_ X σ)):∀σ H Q,tD X.K G H0 (fK (.ins false c fs) i f) σ H Q->vb X C m sp (gE i) (iF X.K G H0 F) σ H Q:=λσ H Q Y=>by
 obtain⟨W,env,d,env',ok,q,k⟩:=Y;unfold fK at q;split at q;case isFalse=>cases q
 rename_i a;obtain⟨p,dx,us,S,b,_⟩:=a.at ok U;obtain⟨g,env0,ds,env1,D,_,l,n⟩:=h σ H Q ⟨W,env,d,env',ok,q,k⟩;refine⟨_,S,p,dx,_,rfl,b,so V,g,env0,ds,env1,D,l,λW' ws H' st I r=>?_⟩;exact n W' [.ref p] ws H' st I rfl (λj o e=>by cases j with |zero=>simp at e;subst e;exact⟨_,rfl,S⟩ |succ j=>simp at e) r
def AM(U:Cl X.K c C)(V:m∉fs){f:XF}(h:∀σ H (Q:VK),gU X G H0 f σ H->jG X G H0 [i] F σ H λvs H1=>sp vs H1 Q (f_ X σ)):∀σ H (Q:VK),gU X G H0 (xK (.ins false c fs) i f) σ H->vb X C m sp (gE i) (iF X.K G H0 F) σ H Q:=λσ H Q Y=>by
 obtain⟨W,env,d,env',ok,q,k⟩:=Y;unfold xK at q;split at q;case isFalse=>cases q
 rename_i a;obtain⟨p,dx,us,S,b,_⟩:=a.at ok U;obtain⟨g,env0,ds,env1,D,_,l,n⟩:=h σ H Q ⟨W,env,d,env',ok,q,k⟩;refine⟨_,S,p,dx,_,rfl,b,so V,g,env0,ds,env1,D,l,λW' ws H' st I r=>?_⟩;exact n W' [.ref p] ws H' st I rfl (λj o e=>by cases j with |zero=>simp at e;subst e;exact⟨_,rfl,S⟩ |succ j=>simp at e) r
variable{Nn Cn:d3}{cn:Str}{mm:f4->fh->fk}
def qg(c:dY X.prog X.w X.K X.mg X.base cn m k (eG X.K mm xx))(U:aP jr X.A)(an:bI Nn Cn X)(hkj:k<=jr:=by decide)(D:‹Nn[i]?=↑x›)(V:m∉fs:=by decide +kernel)(Y:eval (.Call (.Attribute (.Name x p') m apos) [] [] pos) X.env=(do
   let ov <-eval (.Name x p') X.env
   standAt apos.atName
   let (f,first) <-holding [ov] (getMethod ov m pl)
   callWith pos f first (backTo pos (starEach [] X.env)) (backToKw pos (keywordEach [] X.env))):=by rfl) :
  aN X G H0 (.Call (.Attribute (.Name x p') m apos) [] [] pos) (fK (.ins false cn fs) i (gy mm [i] aC)):=let ⟨_,_,_,_,c,I,b,d,e⟩:=c;⟨(rX ((an.a D).pe) c I b (U.mono hkj) d Y).imp λσ H Q h=>by
   obtain⟨g,h1,h2⟩:=sr (F:=aC) e V (sd (xx:=xx)) σ H Q h;obtain⟨a,dx,S,j,l,n,W,env,ds,env',ok,q,o⟩:=h2;cases q;exact⟨g,h1,a,dx,S,j,l,n,o W [] H Step.refl ok .nil⟩⟩
variable{xx:f4->fh->Option (Str×f4)}{mm:f4->fh->gb}
def su(c:dY X.prog X.w X.K X.mg X.base cn m k (hO X.K mm xx))(V:aP jr X.A)(Y:d_ X G H0 (e::es) F)(an:bI Nn Cn X)(hkj:k<=jr:=by decide)(D:‹Nn[i]?=↑x›)(b:m∉fs:=by decide +kernel)(I:‹starEach (e::es) X.env=(false,eval e X.env)::starEach es X.env›)(S:‹(backTo pos (starEach es X.env)).any (·.1)=false›)(d:eval (.Call (.Attribute (.Name x p') m apos) (e::es) [] pos) X.env=(do
   let ov <-eval (.Name x p') X.env
   standAt apos.atName
   let (f,first) <-holding [ov] (getMethod ov m pl)
   callWith pos f first (backTo pos (starEach (e::es) X.env)) (backToKw pos (keywordEach [] X.env))):=by rfl) :
  aN X G H0 (.Call (.Attribute (.Name x p') m apos) (e::es) [] pos) (fK (.ins false cn fs) i (mi mm [i] F)):=let ⟨_,_,_,_,c,U,g,h,j⟩:=c;⟨(AC ((an.a D).pe) c U g (V.mono hkj) h Y.out I S d).imp (sr j b (AL ⋯))⟩
variable{z:Int}
def md(D:∃t,X.mg x=↑(.int z t))(I:Gl X x:=by walk_at "g")(hd:(x==("__debug__" : Str))=false:=by decide +kernel):aN X G H0 (.Name x pos) (fC ↥z):=by
 obtain⟨t,D⟩:=D;exact h8 (oZ I D (v:=.int z) ⟨t,rfl⟩ hd) λ_ _=>.int _
abbrev FV:=DE0->Option DE0
def tV(X:Cx)(G:Gd)(H0:Hp)(v:FV):TE:=λσ H Q=>∃W env env',Ok X.K G H0 W env σ H/\v env=↑env'/\∀W' z H',Step W H W' H'->Ok X.K G H0 W' env' σ H'->Q (.str z) H'
structure JV (X:Cx) (G:Gd) (H0:Hp) (e:Expr) (v:FV):Prop where
 out:PE X e (tV X G H0 v)
def AN{z:Str}:JV X G H0 (.Constant (.str z) j pos) some:=⟨oY.imp λσ H Q ⟨W,env,env',ok,q,k⟩=>by cases q;exact k W z H Step.refl ok⟩
structure mY (X:Cx) (G:Gd) (H0:Hp) (e:Expr) (v:FV):Prop where
 out:∀(pins:e9) (s:Shared) (σ:St) (H:Hp) (Q:Nat->Hp->Prop),Inv X pins σ H s->(∃W env env',Ok X.K G H0 W env σ H/\v env=↑env'/\∀n W' H',n<=1000->Step W H W' H'->Ok X.K G H0 W' env' σ H'->Q n H') ->
  wpAny (model X.prog X.w) X.A (eval e X.env) (λu s'=>∃z t H',u=.str z t/\Inv X pins σ H' s'/\Q z.length H') X.xe s
def oq{z:Str}(D:z.length<=1000:=by decide):mY X G H0 (.Constant (.str z) j pos) some:=⟨λpins s σ H Q I S=>by
 obtain⟨W,env,env',ok,q,k⟩:=S;cases q;exact Calls.Constant_str ⟨z,_,H,rfl,I.tok _,k _ W H D Step.refl ok⟩⟩
def vInt(f:FE):FV:=λe=>(f e).bind λr=>match r.1 with | .int z=>if z.natAbs<1000000 then ↑r.2 else none |_=>none
theorem qz(h:aN X G H0 a f):mY X G H0 (.FormattedValue a (-1) none pos) (vInt f):=⟨λpins s σ H Q I S=>by
 obtain⟨W,env,env',ok,q,k⟩:=S;unfold vInt at q;cases e1:f env with
 |none=>rw[e1] at q;cases q
 |some r =>
   rw[e1,ae] at q;split at q;case h_2=>cases q
   rename_i z d;split at q;case isFalse=>cases q
   rename_i V;cases q;refine FormattedValue_plain (aW (h.out pins s σ H (λv H1=>v=.int z/\∀n,n<=1000->Q n H1) I ⟨W,env,r.1,r.2,ok,e1,λW1 v H1 Y U b=>⟨by rw[d] at b;exact b.int_,λn e=>k n W1 H1 e Y U⟩⟩) λu Y S=>?_);obtain⟨v,H1,g,i,j,l⟩:=S;subst j;obtain⟨t,rfl⟩:=i;have D:z.natAbs.log2<1920:=by
    by_cases c:z.natAbs=0
    ·rw[c];decide
    ·exact(Nat.log2_lt c).mpr (az V (b5 (by decide:(1000000:Nat)<=2 ^ 20) (j3 (by decide) (by decide))))
   refine formatField_int_small D ⟨_,_,H1,rfl,(g.tok _).tok _,l _ ?_⟩;have:(toString z).length<=6+1:=int_text_length_le10 (by decide) V;rw[PySem.ofString_length]
   lia⟩
structure kZ (X:Cx) (G:Gd) (H0:Hp) (es:er) (v:FV):Prop where
 out:∀(acc:Str) (pins:e9) (s:Shared) (σ:St) (H:Hp) (Q:VK),acc.length+1000*es.length<=100000->Inv X pins σ H s->tV X G H0 v σ H Q ->
  wpAny (model X.prog X.w) X.A (joinParts acc (evalEach es X.env)) (EP X pins σ Q) X.xe s
theorem qy  : kZ X G H0 [] some:=⟨λD pins s σ H Q U I S=>by
 obtain⟨W,env,env',ok,q,k⟩:=S;cases q;exact joinParts_nil ⟨.str D,H,I.tok _,⟨_,rfl⟩,k W D H Step.refl ok⟩ (by rw[fb];lia)⟩
theorem kq{w:FV}(h:mY X G H0 e v)(t:kZ X G H0 es w)(f:‹evalEach (e::es) X.env=eval e X.env::evalEach es X.env›):kZ X G H0 (e::es) (λz=>(v z).bind w):=⟨λa pins s σ H Q b I D=>by
 obtain⟨W,env,env',ok,q,k⟩:=D;cases e1:v env with
 |none=>simp only[e1] at q;cases q
 |some env1 =>
   have q:w env1=↑env':=by simpa only[e1,ae] using q
   rw[ak] at b;refine joinParts_cons (aW (h.out pins s σ H (λn H1=>n<=1000/\tV X G H0 w σ H1 Q) I ⟨W,env,env1,ok,e1,λn W1 H1 Y S U=>⟨Y,W1,env1,env',U,q,λW' z H' s2 V=>k W' z H' (S.trans s2) V⟩⟩) λu S D=>?_);obtain⟨z,tk,H1,c,d,Y,tv⟩:=D;subst c;exact⟨by rw[strLen_append,fb];lia,t.out _ pins S σ H1 Q (by rw[strLen_append];lia) d tv⟩⟩
theorem qx{e':Expr}(h:kZ X G H0 (e::e'::es) v)(D:1000*(e::e'::es).length<=100000:=by decide):JV X G H0 (.JoinedStr (e::e'::es) pos) v :=
 ⟨λpins s σ H Q I t=>JoinedStr_many (h.out Str.empty pins s σ H Q (by show 0+_<=_;lia) I t)⟩
abbrev mZ:d5:=[.type "ValueError",.type "Exception",.type "BaseException",.type "object"]
def XC(K:e5)(C:Addr):Prop:=PySem.W.excIn K C mZ "ValueError.__new__" = true
def hU(K:e5)(mg:Str->eb)(c:Str):Prop:=∃C,Cl K c C/\XC K C/\mg c=↑(.ref C)/\(c==("__debug__" : Str))=false
def XC.obj{h:Heap}(I:XC K C)(D:K.In h):∃bm N nm q bs hdct sn sub ab col dd k0 k1 k2 k3 k5 mN,h.get? C=↑(excClassObj nm q C N bs bm hdct sn sub ab col dd k0 k1 k2 k3 k5 "ValueError.__new__")/\h.Ns N mN/\mN "__init__" = none/\OwnTail h mZ bm:=by
 unfold XC PySem.W.excIn at I;split at I;case h_2=>cases I
 rename_i dd U sl V;split at I;case h_2=>cases I
 rename_i m bm k0 k1 k2 k3 n k5 Y a;simp only[df,im,i3] at I;obtain⟨⟨⟨⟨⟨b,c⟩,d⟩,e⟩,S⟩,f⟩:=I;subst b;subst c;have g:=D _ _ V;obtain⟨nm,bs,i,ns,j,hd,sn,sub,ab,col,k⟩:=U;obtain⟨l⟩:=sl;subst Y;subst d;subst a;exact⟨bm,ns,nm,j,bs,hd,sn,sub,ab,col,dd,k0,k1,k2,k3,k5,_,g,.of_isNs (isNs_of_in D S),nsMap_none_of_in D S f,tail_of_in D e⟩
def l6(c:Str)(v:FV):FS:=λe=>(v e).map λe'=>(.xc c,e')
def qf{l cpos:Pos}(n:hU X.K X.mg c)(o:JV X G H0 a v)(p:‹X.calm=true›)(r:Gl X c:=by walk_at "g")(V:‹starEach [a] X.env=(false,eval a X.env)::starEach [] X.env›)(Y:‹(backTo cpos (starEach [a] X.env)).any (·.1)=false›) :
  dS X G H0 (.Raise ↑(.Call (.Name c l) [a] [] cpos) none pos) (l6 c v):=let ⟨C,t,u,w,b⟩:=n;⟨λpins s σ H D I d=>by
 obtain⟨W,env,fl,env',ok,q,k⟩:=d;unfold l6 at q;cases e1:v env with
 |none=>rw[e1] at q;cases q
 |some env1 =>
   rw[e1] at q;cases q;obtain⟨tl,N,nm,q,bs,hdct,sn,sub,ab,col,dd,k0,k1,k2,k3,k5,mN,x,y,A,i⟩:=u.obj I.ok.mod.kin;refine wpAny_Raise_call_subT (C:=C) (nm:=nm) (q:=q) (N:=N) (bs:=bs) (bm:=tl) (hdct:=hdct) (sn:=sn) (sub:=sub) (ab:=ab) (col:=col) (dd:=dd) (k0:=k0) (k1:=k1) (k2:=k2) (k3:=k3) (k5:=k5) pk (mN:=mN)
    (i.hasType pk.hasBase) (I.ok.hd p) Y A (qe I r w ⟨rfl,?_⟩ b)
   rw[V];refine Calls.evalArgs_plain ?_;have j:=(j6 o.out lx V) cpos pins s σ H (λvs H1=>vs.length=1/\∃W1,Step W H W1 H1/\Ok X.K G H0 W1 env' σ H1) I ⟨W,env,env',ok,e1,λW1 z H1 f S=>⟨rfl,W1,f,S⟩⟩;rw[V] at j;refine aW j λus f d=>?_;obtain⟨vs,H1,U,B,E,W1,g,S⟩:=d;have h:us.length<=sizeLine:=by rw[<-B.length,E];decide
   exact⟨rfl,h,U.bk _ _ x,y.keeps U.bk,i.keeps U.bk,λh' e m=>k W1 σ H1 C t g S pins e _ (.inr ⟨f,us,U,m,rfl⟩)⟩⟩
def bW(e:DE0)(i:Nat):Option Ag:=match e[i]? with |some ↑(.ag k _ ps)=>↑(k,ps) |some ↑(.ro k ps)=>↑(k,ps) |_=>none
def n4:fw->Nat->Nat
 | .o _::r,j+1=>n4 r j+1 | .d _::r,j+1=>n4 r j |_,_=>0
inductive Acc where
 |at (κ:AK) |al (x:Nat)
def Acc.ok:Acc->DE0->Nat->Nat->Prop
 | .at κ,e,i,_=>gW κ e i
 | .al x,e,i,j=>∃k r ps,e[i]?=↑↑(.ag k ↑r ps)/\e[x]?=↑↑(.al r (n4 ps j))
instance (A:Acc) (e:DE0) (i j:Nat):Decidable (A.ok e i j):=Classical.propDecidable _
def ln(A:Acc)(i j:Nat)(e:DE0):Option fh:=if A.ok e i j then(bW e i).bind λx=>match x.2[j]? with |some (.o ds)=>↑ds |_=>none else none
def cN(K:e5)(H:Hp)(env:DE0)(σ:St)(i j:Nat)(a:Addr):Prop:=∃k ps p us,bW env i=↑(k,ps)/\σ[i]?=↑↑(.ref p)/\cI K H k p us/\us[j]?=↑(.ref a)
def AO(X:Cx)(G:Gd)(H0:Hp)(A:Acc)(i j:Nat):TE:=λσ H Q=>∃W env ds,Ok X.K G H0 W env σ H/\ln A i j env=↑ds /\
 ∀a vs,cN X.K H env σ i j a->H a=↑(.lst vs)->aF X.K H (Ow G W) ds vs->Q (.ref a) H
structure m_ (X:Cx) (G:Gd) (H0:Hp) (e:Expr) (A:Acc) (i j:Nat):Prop where
 out:PE X e (AO X G H0 A i j)
protected def aO.ix(h:aO K G W H ps as us)(e:ps[j]?=↑(.o ds)):∃a,us[j]?=↑(.ref a)/\as[n4 ps j]?=↑a:=by
 induction h generalizing j with
 |nil=>simp at e |d _ _ ih =>
   cases j with
   |zero=>simp at e |succ j=>obtain⟨a,h1,h2⟩:=ih (j:=j) (by simpa using e);exact⟨a,by simpa using h1,h2⟩
 | @o _ a _ _ _ _ _ _ _ _ ih =>
   cases j with
   |zero=>exact⟨a,rfl,rfl⟩ |succ j=>obtain⟨b,h1,h2⟩:=ih (j:=j) (by simpa using e);exact⟨b,by simpa using h1,by simpa[n4] using h2⟩
variable{k:AK}
def Ok.part(ok:Ok K G H0 W env σ H)(e:bW env i=↑(k,ps))(V:ps[j]?=↑(.o ds)):∃p us a vs,σ[i]?=↑↑(.ref p)/\cI K H k p us/\us[j]?=↑(.ref a)/\H a=↑(.lst vs)/\aF K H (Ow G W) ds vs:=by
 unfold bW at e;split at e
 ·rename_i k' l ps' q
  cases e;obtain⟨v,D,p,as,us,rfl,_,_,_,I,S⟩:=ok.slot i _ q;obtain⟨a,vs,h1,_,_,h2,U⟩:=S.get V;exact⟨p,us,a,vs,D,I,h1,h2,U⟩
 ·rename_i k' ps' q
  cases e;obtain⟨v,D,p,us,rfl,_,I,S⟩:=ok.slot i _ q;obtain⟨a,vs,h1,_,h2,U⟩:=S.get V;exact⟨p,us,a,vs,D,I,h1,h2,U⟩
 ·cases e
variable{A:Acc}
def sv(h:ln A i j env=↑ds):A.ok env i j/\∃k ps,bW env i=↑(k,ps)/\ps[j]?=↑(.o ds):=by
 unfold ln at h;split at h;case isFalse=>cases h
 rename_i D;cases e:bW env i with
 |none=>rw[e] at h;cases h
 |some x =>
   rw[e,ae] at h;split at h
   ·rename_i ds' q;cases h;exact⟨D,x.1,x.2,rfl,q⟩
   ·cases h
def cN.inj{a b:Addr}(h:cN K H env σ i j a)(h':cN K H env σ i j b):a=b:=by
 obtain⟨k,ps,p,us,h1,h2,V,Y⟩:=h;obtain⟨k',ps',p',c,I,S,U,D⟩:=h';rw[h1] at I;cases I;rw[h2] at S;cases S;rw[qa V U.o] at D;rw[Y] at D;cases D;rfl
def nb{f:Str}{u:V}(D:fs.Nodup)(h1:fs[j]?=↑f)(h2:us[j]?=↑u):(fs.zip us).lookup f=↑u:=by
 induction fs generalizing us j with
 |nil=>simp at h1 |cons g r ih =>
   cases us with
   |nil=>simp at h2 |cons w us =>
     rw[io,bw];cases j with
     |zero=>simp at h1 h2;subst h1;subst h2;simp |succ j =>
       have I:(f==g)=false:=by simp;exact λz=>(cb.mp D).1 (z ▸ br h1)
       rw[I];exact ih (cb.mp D).2 h1 (by simpa using h2)
def vw(c:k4 X.K cn m)(an:bI Nn Cn X)(I:‹Nn[i]?=↑x›)(V:‹fs[j]?=↑m›)(Y:fs.Nodup:=by decide +kernel)(b:‹attributeBase (.Name x p') m X.env (eval (.Name x p') X.env)=eval (.Name x p') X.env›):m_ X G H0 (.Attribute (.Name x p') m pos) (.at (.ins false cn fs)) i j:=let ⟨C,c,d,e⟩:=c;⟨(pK ((an.a I).pe) b).imp λσ H Q f=>by
  obtain⟨W,env,ds,ok,q,k⟩:=f;obtain⟨g,κ,ps,D,h⟩:=sv q;obtain⟨p,us,a,vs,h1,h2,S,n,o⟩:=ok.part D h;have r:κ=.ins false cn fs:=by
   rcases g with⟨l,ps',z⟩ | ⟨ps',z⟩ <;> (unfold bW at D;rw[z] at D;cases D;rfl)
  subst r;obtain⟨t,dx,s,U,u⟩:=id h2;rw[Cl.inj s e] at U;exact⟨_,h1,p,C,dx,_,_,rfl,U,c,d,nb Y V S,k a vs ⟨_,ps,p,us,D,h1,h2,S⟩ n o⟩⟩
structure JK (X:Cx) (e:Expr) (z:Int):Prop where
 out:PE X e (tC ↥z)
def s0{D:Nat}:JK X (.Constant ↥z D pos) z:=⟨oX⟩
def sA(h:JK X e z):JK X (.UnaryOp .USub e pos) (-z):=⟨(wk wH h.out).imp λσ H Q q=>⟨z,rfl,q⟩⟩
def jH(A:Acc)(i j:Nat)(z:Int):FE:=λe=>(ln A i j e).bind λds=>(bZ ds z).map λd=>(d,e)
def sB(h:m_ X G H0 e A i j)(D:JK X b z)(I:uc b:=by intro _ _;rfl):aN X G H0 (.Subscript e b pos) (jH A i j z) :=
 ⟨(yp pX h.out D.out I).imp λσ H Q S=>by
  obtain⟨W,env,d,env',ok,q,k⟩:=S;unfold jH at q;cases e1:ln A i j env with
  |none=>rw[e1] at q;cases q
  |some ds =>
    rw[e1,ae] at q;cases e2:bZ ds z with
    |none=>rw[e2] at q;cases q
    |some d' =>
      rw[e2] at q;cases q;refine⟨W,env,ds,ok,e1,λa vs _ U r=>?_⟩;obtain⟨v,V,Y⟩:=rc r e2;exact⟨a,vs,z,v,rfl,rfl,.inl (.inl U),V,k W v H Step.refl ok Y⟩⟩
def setP(e:DE0)(i j:Nat)(ds:fh):DE0:=match e[i]? with |some ↑(.ag k l ps)=>e.set i ↑(.ag k l (ps.set j (.o ds))) |_=>e
def Ok.setP{K:e5}{W:Addr->Prop}{H:Hp}{env:DE0}{σ:St}{k:AK}{l:Option Nat}{ps:fw}{ds ds':fh}{a:Addr}{vs':fe}(ok:Ok K G H0 W env σ H)(e:env[i]?=↑↑(.ag k l ps))(I:ps[j]?=↑(.o ds))(S:cN K H env σ i j a)(r:aF K H (Ow G W) ds' vs') :
  Ok K G H0 W (L2.setP env i j ds') σ (aR H a (.lst vs'))/\Step W H W (aR H a (.lst vs')):=by
 obtain⟨k',ps',p,us,h1,h2,U,Y⟩:=S;have:bW env i=↑(k,ps):=by unfold bW;rw[e]
 rw[this] at h1;cases h1;unfold L2.setP;rw[e];exact ok.turnP e h2 U I Y r
def hV(k:AK)(l:Option Nat):Prop:=l.isSome=true/\∀c fs,k≠.ins true c fs
instance (k:AK) (l:Option Nat):Decidable (hV k l):=Classical.propDecidable _
variable{l:Option Nat}
def AQ{W1:Addr->Prop}{H1:Hp}{env1:DE0}{S:fw}{f:fh}{a:Addr}(x:hV k l)(ok:Ok K G H0 W env σ H)(g:Ok K G H0 W1 env1 σ H1)(e:env[i]?=↑↑(.ag k l ps))(y:env1[i]?=↑↑(.ag k l S))(z:ps[j]?=↑(.o ds))(h:S[j]?=↑(.o f))(A:n4 S j=n4 ps j)(B:cN K H env σ i j a):cN K H1 env1 σ i j a:=by
 obtain⟨r,rfl⟩:=i7.mp x.1;obtain⟨v,m,p,as,us,rfl,_,_,h1,C,E⟩:=ok.slot i _ e;obtain⟨M,Y,p',U,n,rfl,_,_,q,s,t⟩:=g.slot i _ y;rw[m] at Y;cases Y;have V:=h1 r rfl;have I:=q r rfl;obtain⟨b,F,J⟩:=E.ix z;obtain⟨N,u,d⟩:=t.ix h;have L:cN K H env σ i j b:=⟨k,ps,p,us,by unfold bW;rw[e],m,C,F⟩;have ab:=B.inj L;subst ab;have w:U=as:=by
  cases k with
  |ls=>have V:G.r r=p::as:=V;have I:G.r r=p::U:=I;rw[V] at I;cases I;rfl
  |ins bb c fs =>
    cases bb with
    |true=>exact absurd rfl (x.2 c fs) |false=>have V:G.r r=p::as:=V;have I:G.r r=p::U:=I;rw[V] at I;cases I;rfl
 subst w;rw[A,J] at d;cases d;exact⟨k,S,p,n,by unfold bW;rw[y],m,s,u⟩
instance (k k':AK):Decidable (k=k'):=Classical.propDecidable _
def iW(i j:Nat)(k0:AK)(I:Option Nat)(n:Nat)(d:D)(e:DE0):Option (D×DE0):=match e[i]? with
 |some ↑(.ag k l ps)=>(match ps[j]? with |some (.o ds)=>if k=k0/\l=I/\n4 ps j=n/\cE (ds.length+1) then ↑(.non,setP e i j (ds++[d])) else none |_=>none)
 |_=>none
def qw(A:Acc)(i j:Nat)(f:FE):FE:=λe=>match e[i]? with
 |some ↑(.ag k l ps)=>if hV k l then(ln A i j e).bind λ_=>(f e).bind λr=>iW i j k l (n4 ps j) r.1 r.2 else none
 |_=>none
variable{p1:Pos}
def sC(h:m_ X G H0 e A i j)(t:aN X G H0 a f)(I:‹attributeBase e "append" X.env (eval e X.env)=eval e X.env›)(Y:((backTo pos (starEach [a] X.env)).all (λx=>!x.1) && (backToKw pos (keywordEach [] X.env)).all (λx=>x.1.isSome)
   && decide ([a].length+([]:List Keyword).length+(if ([]:List Keyword).isEmpty then 0 else 1)<30))=true:=by rfl)(S:‹(p1.endLine==pos.line)=true›)(m:‹starEach [a] X.env=(false,eval a X.env)::starEach [] X.env›) :
  aN X G H0 (.Call (.Attribute e "append" p1) [a] [] pos) (qw A i j f):=⟨(u8 gg td sy qB h.out (j6 t.out lx m) I Y S m rfl).imp λσ H Q u=>by
 obtain⟨W,env,d,env',ok,q,k⟩:=u;unfold qw at q;split at q;case h_2=>cases q
 rename_i T Z pp n;split at q;case isFalse=>cases q
 rename_i b;cases e1:ln A i j env with
 |none=>rw[e1] at q;cases q
 |some ds =>
   rw[e1,ae] at q;cases e2:f env with
   |none=>rw[e2] at q;cases q
   |some r =>
     rw[e2,ae] at q;unfold iW at q;split at q;case h_2=>cases q
     rename_i k1 l1 v D;split at q;case h_2=>cases q
     rename_i w U;split at q;case isFalse=>cases q
     rename_i y;obtain⟨rfl,rfl,z,g⟩:=y;cases q;obtain⟨_,κ,ps,o,B⟩:=sv e1;have:bW env i=↑(k1,pp):=by unfold bW;rw[n]
     rw[this] at o;cases o;refine⟨W,env,ds,ok,e1,λad vs C E rr=>⟨.inl ⟨rfl,_,.inl (.inl E)⟩,W,env,r.1,r.2,ok,e2,λW1 F H1 J V K=>?_⟩⟩;have c:=AQ b ok V n D B U z C;obtain⟨p,us,a1,l,L,M,N,O,s⟩:=V.part (i:=i) (by unfold bW;rw[D]) U;have:=c.inj ⟨_,_,p,us,by unfold bW;rw[D],L,M,N⟩;subst this;obtain⟨P,R⟩:=V.setP D U c (s.append (.cons K .nil));exact⟨ad,l,F,rfl,rfl,O,by rw[<-s.length];exact kf (Nat.lt_of_succ_le g),k W1 _ _ (J.trans R) P .non⟩⟩
abbrev FG:=DE0->Option (Ag×DE0)
def sE(env:DE0)(σ:St)(H:Hp)(s:Sl)(v:V):Prop:=∀(j:Nat) (s':Sl) (D:V) (a:Addr),env[j]?=↑↑s'->σ[j]?=↑↑D->aV H s v a->¬aV H s' D a
def AR(X:Cx)(G:Gd)(H0:Hp)(f:FG):TE:=λσ H Q=>DP X.K G H0 f (λW env x env' =>
 ∀W' p H',Step W H W' H'->Ok X.K G H0 W' env' σ H'->cJ X.K G W' H' (.ag x.1 none x.2) (.ref p)->sE env' σ H' (.ag x.1 none x.2) (.ref p)->Q (.ref p) H') σ H
structure sF (X:Cx) (G:Gd) (H0:Hp) (e:Expr) (f:FG):Prop where
 out:PE X e (AR X G H0 f)
def uz(i:Nat)(f:FG):FS:=λe=>(f e).map λr=>(.nx,r.2.set i ↑(.ag r.1.1 none r.1.2))
variable{G':Gd}
def Ok.newA(ok:Ok K G H0 W env σ H)(Y:aU H H')(c:∀a,W' a->H a=none)(C:∀a,W' a->∃m:Mo,H' a=↑m.out)(E:∀a,G' a->Ow G W a\/H a=none){k':AK}{p:Addr}(u:∀us,cI K H' k p us->cI K H' k' p us)(h:cJ K G' W' H' (.ag k l ps) (.ref p)) :
  Ok K G H0 (λa=>W a\/W' a) env σ H'/\Step W H (λa=>W a\/W' a) H'/\cJ K G (λa=>W a\/W' a) H' (.ag k' none ps) (.ref p)/\sE env σ H' (.ag k' none ps) (.ref p):=by
 have st:Step W H (λa=>W a\/W' a) H':=⟨λb o e _=>Y b o e,λa z=>z.imp id (c a)⟩;have D:=ok.same Y;have f:Ok K G H0 (λa=>W a\/W' a) env σ H':=by
  refine⟨D.stay,ok.good,λa z=>?_,λi s e=>?_,D.uniq,ok.len⟩
  ·rcases z with z |z
   ·exact D.wl a z
   ·exact⟨ok.stay.free (c a z),C a z⟩
  ·obtain⟨v,g,q⟩:=ok.slot i s e
   exact⟨v,g,ok.slstep st q λa m o t=>⟨.inl (q.owns o),Y _ _ t⟩⟩
 obtain⟨p',as,us,e,x,F,N,I,S⟩:=h;cases e;have A:∀(a:Addr) (us:fe),Ow G' W' a->Rd H' a (.lst us)->Ow G (λa=>W a\/W' a) a/\Rd H' a (.lst us):=λa us o q=>⟨by
  rcases E a o.1 with z |z
  ·exact⟨z.1,λy=>y.elim z.2 o.2⟩
  ·exact⟨ok.good a (ok.stay.free z),λy=>y.elim (λw=>by obtain⟨_,m,q⟩:=ok.wl a w;rw[z] at q;cases q) o.2⟩,q⟩
 refine⟨f,st,⟨p,as,us,rfl,.inr x,F,(λn z=>nomatch z),u us I,S.step (λa vs U z=>⟨.inr (S.own U).1,z⟩) (λd v r=>r.mono (λ_ _ h=>h) A) λd v r=>r.mono (λ_ _ h=>h) A⟩,λj s v a g t J L=>?_⟩;have M:W' a:=by
  rcases J with o | ⟨p',us',z,q,U⟩
  ·cases o;exact x
  ·cases z
   rw[qa (u us I) q] at U;exact(S.own (S.parts_iff.mp U)).1
 obtain⟨O,B,q⟩:=D.slot j s g;rw[t] at B;cases B;obtain⟨_,m,z⟩:=ok.wl a (q.owns L);rw[c a M] at z;cases z
variable{g:FG}{y:XF}
def AS{y:Str}(I:cS Nn X)(h:sF X G H0 e g)(D:‹Nn[i]?=↑y›)(U:‹swapsWith e ↑(.Name y p') pos.line X.env=pure false›) :
  dS X G H0 (.Assign [.Name y p'] e pos) (uz i g):=⟨(zd (I.t D).nd (I.t D).n (I.t D).l h.out U (I.t D).f).imp λDn σ H V=>by
 obtain⟨W,env,fl,env',ok,q,k⟩:=V;unfold uz at q;cases e1:g env with
 |none=>rw[e1] at q;cases q
 |some r =>
   rw[e1] at q;cases q;exact⟨W,env,r.1,r.2,ok,e1,λW1 p H1 Y S sl a=>k W1 _ H1 Y (S.put sl a)⟩⟩
variable{ps:d3}
def tq(c:Str)(m:f4->fh->gb)(F:FA):FG:=λe=>(F e).bind λr=>(m [(.ins true c [],[])] r.1).bind λq=>match q with
 | (.non,[(.ins true c' fs,ps)])=>↑((.ins false c' fs,ps),r.2) |_=>none
def AT{D dx:Addr}(ok:Ok K G H0 W env σ H)(Y:Cl K cn C)(h1:H D=none)(h2:H dx=none)(k:dx≠D)(r:aF K H (Ow G W) ds vs) :
  aU H (aR (aR H dx (.own D)) D (.ins C dx [])) /\
  Ok K ⟨Ow G W,λ_=>[D]⟩ (fG (aR (aR H dx (.own D)) D (.ins C dx [])) (λb=>b=D)) (λb=>b=D) (ky [(.ins true cn [],[])]) [↑(.ref D)] (aR (aR H dx (.own D)) D (.ins C dx [])) /\
  aF K (aR (aR H dx (.own D)) D (.ins C dx [])) (Ow ⟨Ow G W,λ_=>[D]⟩ (λb=>b=D)) ds vs:=by
 have I:aU H (aR (aR H dx (.own D)) D (.ins C dx [])):=λb o e=>by rw[e8 (kt e h1),e8 (kt e h2)];exact e
 have U:∀a,H a=none->Ow G W a:=λa z=>⟨ok.good a (ok.stay.free z),λw=>by obtain⟨_,m,q⟩:=ok.wl a w;rw[z] at q;cases q⟩;refine⟨I,⟨λa o e=>(rV e).2,λa e=>?_,λa e=>⟨z8 e,.i C dx [],by rw[show a=D from e,j9]⟩,λS s e=>?_,λS c s s' v l b d f p t x A=>?_,rfl⟩,?_⟩
 ·rcases rW e with z |z
  ·rw[show a=D from z];exact U D h1
  ·refine U a ?_
   by_cases y:a=D
   ·rw[y];exact h1
   ·rw[e8 y] at z
    by_cases V:a=dx
    ·rw[V];exact h2
    ·rwa [e8 V] at z
 ·obtain⟨B,q,rfl⟩:=vz e
  cases S with
  |zero =>
    simp at q;subst q;exact⟨.ref D,rfl,D,[],[],rfl,rfl,by simp,λn _=>rfl,⟨C,dx,Y,j9,rfl⟩,.nil⟩
  |succ n=>simp at q
 ·obtain⟨_,g,_⟩:=vz d
  obtain⟨_,j,_⟩:=vz f;cases S with
  |zero=>cases c with
    |zero=>rfl |succ n=>simp at j
  |succ n=>simp at g
 ·refine r.mono (λa u z=>I _ _ z) λa us o h=>⟨⟨o,λz=>?_⟩,h.keep λo z=>I _ _ z⟩
  rw[show a=D from z] at h;rcases h with h | ⟨_,h⟩ <;> (have h2:=h1.symm.trans h;cases h2)
variable{k:Nat}
def AU{m:f4->fh->gb}(c:iV X.prog X.w X.K X.mg X.base x k (hO X.K m xx))(Y:aP jr X.A)(t:d_ X G H0 (e::es) F)(hkj:k+1<=jr:=by decide)(u:Gl X x:=by walk_at "g")(B:‹starEach (e::es) X.env=(false,eval e X.env)::starEach es X.env›)(d:‹(backTo pos (starEach es X.env)).any (·.1)=false›) :
  sF X G H0 (.Call (.Name x p') (e::es) [] pos) (tq x m F):=let ⟨_,_,_,_,M,C,E,J,L,f⟩:=c;⟨(AE M C (Y.mono hkj) u E J t.out f B d).imp λσ H Q N=>by
 obtain⟨W,env,y,env',ok,q,k⟩:=N;unfold tq at q;cases e1:F env with
 |none=>rw[e1] at q;cases q
 |some r =>
   rw[e1,ae] at q;cases e2:m [(.ins true x [],[])] r.1 with
   |none=>rw[e2] at q;cases q
   |some z =>
     rw[e2,ae] at q;split at q;case h_2=>cases q
     rename_i j S ps';cases q;refine⟨W,env,r.1,r.2,ok,e1,λW1 vs H1 O U P I dx h1 h2 R=>?_⟩;obtain⟨n,g,Y⟩:=AT U L h1 h2 R P;refine⟨_,_,_,_,[.ref I],r.1,vs,rfl,rfl,g,Y,.inl ⟨_,_,e2,λW' en T v H' st V Z rp=>⟨rp.non_,?_⟩⟩⟩;have hs:=Z 0 _ rfl;obtain⟨v',z1,s⟩:=V.slot 0 _ hs;have ev:v'=.ref I:=by
      obtain⟨p,as,us,rfl,_,_,h,_⟩:=s;have h:([I]:ed)=[p]:=h 0 rfl;cases h;rfl
     subst ev;have i:aU H1 H':=λb o z=>st.keep b o (n b o z) λy=>by rw[show b=I from y,h1] at z;cases z
     have hn:∀a,W' a->H1 a=none:=λa z=>by
      rcases st.ws a z with y |y
      ·rw[show a=I from y];exact h1
      ·cases q:H1 a with
       |none=>rfl |some o=>rw[n a o q] at y;cases y
     obtain⟨w1,w2,w3,w4⟩:=U.newA (G':=⟨Ow G W1,λ_=>[I]⟩) (k:=.ins true j S) (l:=↑0) (ps:=ps') (p:=I) (k':=.ins false j S) i hn (λa z=>(V.wl a z).2) (λa z=>.inl z) (λus z=>z) s;exact k _ I H' (O.trans w2) w1 w3 w4⟩
mutual
def noL:D->Bool
 | .lst _=>false | .dct _ _=>false | .tup ds=>noLs ds |_=>true
def noLs:fh->Bool
 | []=>true |d::r=>noL d && noLs r
end
def aQ.noL{d:D}{v:V}:aQ K H O d v->L2.noL d=true->aQ K H O' d v :=
 aQ.rec (motive_1:=λd v _=>L2.noL d=true->aQ K H O' d v) (motive_2:=λds vs _=>L2.noLs ds=true->aF K H O' ds vs) (λ_=>.non) (λb _=>.bl b) (λb _=>.int b) (λb _=>.str b) (λh _ q e=>.tup h (q (by rw[L2.noL] at e;exact e))) (λ_ _ _ _ e=>by rw[L2.noL] at e;cases e) (λ_ _ _ e=>by rw[L2.noL] at e;cases e) (λ_ _ _ e=>by rw[L2.noL] at e;cases e) (λa _=>.exc a) (λ_=>.nil) λ_ _ p q e=>by rw[L2.noLs,df] at e;exact .cons (p e.1) (q e.2)
def k6:Pt->D | .d d=>d | .o ds=>.lst ds
def n3(r:Nat):DE0->Option fw
 | []=>none |some (.ag .ls ↑r' ps)::e=>if r'=r then ↑ps else n3 r e
 |_::e=>n3 r e
def o7:fw->Nat->Option fh
 | .o ds::_,0=>↑ds | .o _::r,j+1=>o7 r j | .d _::r,j=>o7 r j | [],_=>none
def uy(b:Bool)(ps:fw):fw:=if b=true then ps.map λp=>.d (k6 p) else ps
def k7(b:Bool)(env:DE0):f0->f0
 |some (.sh d)=>⇑d |some (.ow ds)=>⇑(.lst ds) |some (.o2 dss)=>⇑(.lst (dss.map D.lst)) |some (.ag .ls _ ps)=>⇑(.lst (ps.map k6)) |some (.ag k _ ps)=>↑(.ro k (uy b ps)) |some (.ro .ls ps)=>⇑(.lst (ps.map k6)) |some (.ro k ps)=>↑(.ro k (uy b ps)) |some (.al r j)=>(n3 r env).bind λps=>(o7 ps j).map λds=>.sh (.lst ds) |none=>none
def frz(b:Bool)(env:DE0):DE0:=env.map (k7 b env)
def gA(r:Nat->ed):Gd:=⟨λ_=>True,r⟩
def nl{r:Nat}{ps:fw}:∀ {env:DE0},n3 r env=↑ps->∃i:Nat,env[i]?=↑↑(Sl.ag AK.ls ↑r ps)
 |x::e,h=>by
   unfold n3 at h;split at h
   ·rename_i D;cases D
   ·rename_i S ps' e' q
    cases q;split at h
    ·rename_i I;cases h;subst I;exact⟨0,rfl⟩
    ·obtain⟨i,z⟩:=nl h;exact⟨i+1,by simpa using z⟩
   ·rename_i q
    cases q;obtain⟨i,z⟩:=nl h;exact⟨i+1,by simpa using z⟩
variable{a:Addr}{ps:fw}
def AV(h:aO K G W H ps as us)(e:o7 ps j=↑ds)(ea:as[j]?=↑a):∃vs,H a=↑(.lst vs)/\aF K H (Ow G W) ds vs:=by
 induction h generalizing j with
 |nil=>cases e
 |d _ _ ih=>exact ih e ea |o hW hl r _ ih =>
   cases j with
   |zero=>cases e;simp at ea;subst ea;exact⟨_,hl,r⟩
   |succ j=>exact ih (j:=j) e (by simpa using ea)
def aS.all(h:aS K G W H ps us)(D:∀a,O a):aF K H O (ps.map k6) us:=by
 induction h with
 |nil=>exact .nil |d r _ ih=>exact .cons ((kj λa _=>D a).1 _ _ r) ih |o _ hl r _ ih=>exact .cons (.lst (D _) (.inl hl) ((kj λa _=>D a).2 _ _ r)) ih
def aS.roG(h:aS K G W H ps us)(D:∀a,Ow G W a->Ow G' cA a):aS K G' cA H ps us :=
 h.step (λa vs _ z=>⟨λz=>z,z⟩) (λd v q=>(kj D).1 d v q) λd v q=>(kj D).2 d v q
def aO.toRo(h:aO K G W H ps as us)(D:∀a,Ow G W a->Ow G' cA a):aS K G' cA H ps us :=
 aS.roG (W:=cA) (G:=gd (Ow G W)) h.ro λa z=>D a z.1
def aS.dat(h:aS K G W H ps us)(D:∀a,Ow G W a):aS K G W H (ps.map λp=>.d (k6 p)) us:=by
 induction h with
 |nil=>exact .nil |d r _ ih=>exact .d r ih |o _ hl r _ ih=>exact .d (.lst (D _) (.inl hl) r) ih
def aS.roB(b:Bool)(h:aS K G W H ps us)(D:∀a,Ow G W a):aS K G W H (uy b ps) us:=by
 unfold uy;split
 ·exact h.dat D
 ·exact h
def Ok.freeze(b:Bool)(ok:Ok K G H0 W env σ H):Ok K (gA G.r) H cA (frz b env) σ H:=by
 have V:∀a,Ow G W a->Ow (gA G.r) cA a:=λa _=>⟨trivial,λz=>z⟩;have all:∀a,Ow (gA G.r) cA a:=λa=>⟨trivial,λz=>z⟩;have Y:∀(i:Nat) (s:Sl),(frz b env)[i]?=↑↑s->∃I,env[i]?=↑↑I/\k7 b env ↑I=↑s:=λi s e=>by
  unfold frz at e;rw[bh] at e;cases q:env[i]? with
  |none=>rw[q] at e;cases e
  |some o =>
    rw[q] at e;cases o with
    |none=>cases e
    |some I=>exact⟨I,rfl,by simpa using e⟩
 refine⟨aU.refl _,λa _=>trivial,λl z=>z.elim,λi s e=>?_,λi j s s' v A a D _ J _ o _=>?_,by unfold frz;rw[af];exact ok.len⟩
 ·obtain⟨I,x,D⟩:=Y i s e
  obtain⟨v,B,h⟩:=ok.slot i I x;refine⟨v,B,?_⟩;cases I with
  |sh d=>cases D;exact(kj V).1 _ _ h
  |ow ds=>cases D;obtain⟨l,vs,rfl,m,S,r⟩:=h;exact .lst (all l) (.inl S) ((kj V).2 _ _ r)
  |o2 dss =>
    cases D;obtain⟨l,ls,rfl,m,S,C,hi⟩:=h;exact .lst (all l) (.inl S) (m1 (W':=cA) (G:=gA G.r) (W:=W) ⟨hi.1,λj ds a g n=>let ⟨t,vs,u,E⟩:=hi.2 j ds a g n;⟨t,vs,u,(kj λb z=>⟨trivial,z.2⟩).2 _ _ E⟩⟩ (λa _ _=>all a) λds vs r=>(kj λb _=>all b).2 _ _ r)
  |ag k l ps =>
    obtain⟨p,as,us,rfl,m,C,S,f,U⟩:=h;cases k with
    |ls=>cases D;exact .lst (all p) (.inl f) ((U.toRo V).all all)
    |ins _ c fs=>cases D;exact⟨p,us,rfl,λz=>z,f,(U.toRo V).roB b all⟩
  |ro k ps =>
    obtain⟨p,us,rfl,m,f,U⟩:=h;cases k with
    |ls=>cases D;exact .lst (all p) (.inl f) (U.all all)
    |ins _ c fs=>cases D;exact⟨p,us,rfl,λz=>z,f,(U.roG V).roB b all⟩
  |al r j =>
    have D:((n3 r env).bind λps=>(o7 ps j).map λds=>Sl.sh (.lst ds))=↑s:=D;cases q1:n3 r env with
    |none=>rw[q1] at D;cases D
    |some ps =>
      rw[q1,ae] at D;cases q2:o7 ps j with
      |none=>rw[q2] at D;cases D
      |some ds =>
        rw[q2] at D;cases D;obtain⟨p,as,a,g,n,rfl⟩:=h;obtain⟨F,y⟩:=nl q1;obtain⟨A,L,p',w,us,rfl,_,_,S,_,U⟩:=ok.slot F _ y;have S:G.r r=p'::w:=S r rfl;rw[S] at g;cases g;obtain⟨vs,t,u⟩:=AV U q2 n;exact .lst (all a) (.inl t) ((kj V).2 _ _ u)
 ·obtain⟨I,x,D⟩:=Y i s D
  cases I with
  |sh d=>cases D;exact o.elim
  |ow d=>cases D;exact o.elim
  |o2 d=>cases D;exact o.elim
  |ag k l ps=>cases k <;> (cases D;exact o.elim)
  |ro k ps=>cases k <;> (cases D;exact o.elim)
  |al r j =>
    have D:((n3 r env).bind λps=>(o7 ps j).map λds=>Sl.sh (.lst ds))=↑s:=D;cases q1:n3 r env with
    |none=>rw[q1] at D;cases D
    |some ps =>
      rw[q1,ae] at D;cases q2:o7 ps j with
      |none=>rw[q2] at D;cases D
      |some ds=>rw[q2] at D;cases D;exact o.elim
def Step.noW(s:Step cA H W' H'):aU H H':=λb o e=>s.keep b o e λz=>z
def fS(b:Bool)(f:FE):FE:=λe=>(f (frz b e)).bind λr=>if noL r.1=true then ↑(r.1,e) else none
def ux(b:Bool)(f:FA):FA:=λe=>(f (frz b e)).bind λr=>if noLs r.1=true then ↑(r.1,e) else none
def hY(b:Bool)(x:XF):XF:=λe=>(x (frz b e)).map λr=>(r.1,e)
variable{b:Bool}
def sG(h:∀G H0,aN X G H0 e f):aN X G H0 e (fS b f):=⟨λpins s σ H Q I D=>by
 obtain⟨W,env,d,env',ok,q,k⟩:=D;unfold fS at q;cases e1:f (frz b env) with
 |none=>rw[e1] at q;cases q
 |some r =>
   rw[e1,ae] at q;split at q;case isFalse=>cases q
   rename_i S;cases q;refine(h (gA G.r) H).out pins s σ H Q I ⟨cA,frz b env,r.1,r.2,ok.freeze b,e1,λW' v H' st U V=>?_⟩;exact k W v H' (Step.same st.noW) (ok.same st.noW) (V.noL S)⟩
def AW(h:∀G H0,JX X G H0 e y):JX X G H0 e (hY b y):=⟨λpins s σ H Q I D=>by
 obtain⟨W,env,c,env',ok,q,k⟩:=D;unfold hY at q;cases e1:y (frz b env) with
 |none=>rw[e1] at q;cases q
 |some r =>
   rw[e1] at q;cases q;exact(h (gA G.r) H).out pins s σ H Q I ⟨cA,frz b env,r.1,r.2,ok.freeze b,e1,λW' H' C S st U=>k W H' C S (Step.same st.noW) (ok.same st.noW)⟩⟩
def k8:f0->f0
 |some (.sh d)=>⇑d |some (.ag k _ ps)=>↑(.ro k ps) |some (.ro k ps)=>↑(.ro k ps) |_=>none
def hZ(env:DE0):DE0:=env.map k8
def AX(G:Gd)(W:Addr->Prop)(H:Hp):Gd:=⟨λa=>Ow G W a\/H a=none,G.r⟩
def aO.length(h:aO K G W H ps as us):ps.length=us.length:=by
 induction h with
 |nil=>rfl |d _ _ ih=>rw[ak,ak,ih] |o _ _ _ _ ih=>rw[ak,ak,ih]
abbrev FP:=DE0->Option fw
def AY(X:Cx)(G:Gd)(H0:Hp)(f:FP):TA:=λσ H Q=>∃W env ps,Ok X.K G H0 W env σ H/\f env=↑ps /\
 ∀as us H',aU H H'->as.Nodup->(∀a∈as,H a=none)->aO X.K (AX G W H) (λa=>a∈as) H' ps as us->Q us H'
structure D1 (X:Cx) (G:Gd) (H0:Hp) (es:er) (f:FP):Prop where
 out:PA X es (AY X G H0 f)
def Rd.some{u:HO}(h:Rd H a u):H a≠none:=λz=>by rcases h with h | ⟨_,h⟩ <;> rw[z] at h <;> cases h
def pq(κ:AK)(i j:Nat):FE:=λe=>if gW κ e i then(bW e i).bind λx=>(match x.2[j]? with |some (.d d)=>↑(d,e) |_=>none) else none
def np(c:k4 X.K cn m)(an:bI Nn Cn X)(S:‹Nn[i]?=↑x›)(Y:‹fs[j]?=↑m›)(b:fs.Nodup:=by decide +kernel)(g:‹attributeBase (.Name x p') m X.env (eval (.Name x p') X.env)=eval (.Name x p') X.env›):aN X G H0 (.Attribute (.Name x p') m pos) (pq (.ins false cn fs) i j):=let ⟨C,c,e,f⟩:=c;⟨(pK ((an.a S).pe) g).imp λσ H Q h=>by
  obtain⟨W,env,d,env',ok,q,k⟩:=h;unfold pq at q;split at q;case isFalse=>cases q
  rename_i n;cases D:bW env i with
  |none=>rw[D] at q;cases q
  |some y =>
    rw[D,ae] at q;split at q;case h_2=>cases q
    rename_i d' hd;cases q;rcases n with⟨l,ps',z⟩ | ⟨ps',z⟩
    ·have D:↑(AK.ins false cn fs,ps')=↑y:=by unfold bW at D;rw[z] at D;exact D
     cases D;obtain⟨v,D,p,as,us,rfl,_,_,_,⟨o,dx,U,I,r⟩,V⟩:=ok.slot i _ z;rw[Cl.inj U f] at I;obtain⟨u,h1,h2⟩:=V.getD hd;exact⟨_,D,p,C,dx,_,u,rfl,I,c,e,nb b Y h1,k W u H Step.refl ok h2⟩
    ·have D:↑(AK.ins false cn fs,ps')=↑y:=by unfold bW at D;rw[z] at D;exact D
     cases D;obtain⟨v,D,p,us,rfl,_,⟨o,dx,U,I,r⟩,V⟩:=ok.slot i _ z;rw[Cl.inj U f] at I;obtain⟨u,h1,h2⟩:=V.getD hd;exact⟨_,D,p,C,dx,_,u,rfl,I,c,e,nb b Y h1,k W u H Step.refl ok h2⟩⟩
variable{l:Addr}
def Ok.chgN(ok:Ok K G H0 W env σ H){s s':Sl}{v:V}(S:Mo)(e:env[i]?=↑↑s)(U:σ[i]?=↑↑v)(E:aV H s v a)(J:cJ K G W (aR H a S.out) s' v)(F:∀(j:Nat) (s:Sl) (v:V),env[j]?=↑↑s->σ[j]?=↑↑v->¬aV H s v l)(w:∀b,aV (aR H a S.out) s' v b->aV H s v b\/b=l):Ok K G H0 W (env.set i ↑s') σ (aR H a S.out)/\Step W H W (aR H a S.out):=by
 have m:W a:=by obtain⟨L,r,h⟩:=ok.slot i s e;rw[U] at r;cases r;exact h.owns E
 have st:Step W H W (aR H a S.out):=⟨λb o q n=>by rw[e8 (λz:b=a=>n (by rw[z];exact m))];exact q,λb z=>.inl z⟩;have y:∀ {j:Nat} {sl:Sl} {u:V} {b:Addr},i≠j->env[j]?=↑↑sl->σ[j]?=↑↑u->aV H sl u b->b≠a:=λ{j sl u b} hj q Y o z=>by
  subst z;exact hj (ok.uniq i j s sl v u b e q U Y E o)
 have bk:∀ {j:Nat} {sl:Sl} {u:V} {b:Addr},i≠j->env[j]?=↑↑sl->σ[j]?=↑↑u->aV (aR H a S.out) sl u b->aV H sl u b:=λ{j sl u b} hj q Y o=>by
  obtain⟨M,f,h⟩:=ok.slot j sl q;rw[Y] at f;cases f;cases sl with
  |sh d=>exact o.elim |ow ds=>exact o |o2 dss=>exact h.back (λl D _ vs I=>by rw[e8 (y hj q Y (.inl D))];exact I) o |ag k p ps=>exact h.back (λl D _ vs I=>by rw[e8 (y hj q Y (.inl D))];exact I) o |al _ _=>exact o.elim |ro _ _=>exact o.elim
 refine⟨⟨λb o q=>?_,ok.good,λb z=>?_,λj sl q=>?_,λj k A s2 B C b Y f D I g o2=>?_,by rw[de,ok.len]⟩,st⟩
 ·rw[e8 (λz=>by rw[z,(ok.wl a m).1] at q;cases q)];exact ok.stay b o q
 ·obtain⟨q,us,w⟩:=ok.wl b z
  by_cases h:b=a
  ·exact⟨q,S,by rw[h,j9]⟩
  ·exact⟨q,us,by rw[e8 h];exact w⟩
 ·rcases l9 q with⟨rfl,x,_⟩ | ⟨hj,x⟩
  ·cases x
   exact⟨v,U,J⟩
  ·obtain⟨u,r,h⟩:=ok.slot j sl x
   exact⟨u,r,ok.slstep st h λb vs o f=>⟨h.owns o,by rw[e8 (y hj x r o)];exact f⟩⟩
 ·rcases l9 Y with⟨a1,b1,_⟩ | ⟨a1,b1⟩ <;> rcases l9 f with⟨t,c,_⟩ | ⟨t,c⟩
  ·rw[<-a1,<-t]
  ·subst a1;cases b1
   rw[U] at D;cases D;have o2:=bk t c I o2;rcases w b g with z |z
   ·exact ok.uniq i k s s2 v C b e c U I z o2
   ·subst z;exact absurd o2 (F k s2 C c I)
  ·subst t;cases c
   rw[U] at I;cases I;have g:=bk a1 b1 D g;rcases w b o2 with z |z
   ·exact ok.uniq j i A s B v b b1 e D U g z
   ·subst z;exact absurd g (F j A B b1 D)
  ·exact ok.uniq j k A s2 B C b b1 c D I (bk a1 b1 D g) (bk t c I o2)
def aO.snoc(h:aO K G W H ps as us)(D:W l)(I:H l=↑(.lst vs))(r:aF K H (Ow G W) ds vs):aO K G W H (ps++[.o ds]) (as++[l]) (us++[.ref l]):=by
 induction h with
 |nil=>exact .o D I r .nil |d q _ ih=>exact .d q ih |o a b c _ ih=>exact .o a b c ih
def sH{f:Str}{v:V}:∀ {fs:d3} {us:fe},f∉fs->fs.length=us.length->cH f v (fs.zip us)=(fs++[f]).zip (us++[v])
 | [],[],_,_=>rfl |g::fs,u::us,hf,hl=>by
   have:g≠f:=λz=>hf (by simp[z]);rw[io,dm,dm,io];show(if g=f then(g,v)::fs.zip us else(g,u)::cH f v (fs.zip us))=_;rw[b3 this,sH (λz=>hf (by simp[z])) (by simpa using hl)]
def tm(i:Nat)(cn f:Str)(F:FA):FS:=λe=>(F e).bind λr=>match r.2[i]? with
 |some ↑(.ag (.ins true c fs) l ps)=>if c=cn/\f∉fs/\fs.length<900 then ↑(.nx,r.2.set i ↑(.ag (.ins true c (fs++[f])) l (ps++[.o r.1]))) else none
 |_=>none
variable{value:Expr}
theorem sI(ca:k4 X.K cn m)(an:bI Nn Cn X)(he:fX X G H0 value F)(g:‹Nn[i]?=↑x›)(hs:‹swapsWith value ↑(.Attribute (.Name x p') m p1) pos.line X.env=pure false›) :
  dS X G H0 (.Assign [.Attribute (.Name x p') m p1] value pos) (tm i cn m F):=let ⟨C,c,hn,t⟩:=ca;⟨(wX ((an.a g).pe) he.out hs).imp λDn σ H zq=>by
 obtain⟨W,env,fl,env',ok,q,k⟩:=zq;unfold tm at q;cases e1:F env with
 |none=>rw[e1] at q;cases q
 |some r =>
   rw[e1,ae] at q;split at q;case h_2=>cases q
   rename_i M fs l ps u;split at q;case isFalse=>cases q
   rename_i A;obtain⟨rfl,hf,N⟩:=A;cases q;refine⟨W,env,r.1,r.2,ok,e1,λW1 ad vs H1 s1 U D O P rp=>?_⟩;obtain⟨v,B,p,as,us,rfl,Q,d,hr,⟨C',dx,z1,I,e⟩,S⟩:=D.slot i _ u;rw[Cl.inj z1 t] at I;have R:p≠ad:=λz=>by rw[z,P] at I;cases I
   have na:ad∉as:=λz=>by
    obtain⟨v',f,h⟩:=U.slot i _ u;rw[B] at f;cases f;exact O (h.owns (.inr ⟨p,us,rfl,⟨e,C,dx,I⟩,S.parts_iff.mpr z⟩))
   refine⟨_,B,p,C,dx,fs.zip us,rfl,I,c,hn,?_,?_⟩
   ·rw[List.length_zip];lia
   ·have st:Step (b_ W1 ad) H1 (b_ W1 ad) (aR H1 p (.ins C dx ((fs++[m]).zip (us++[.ref ad])))):=⟨λb o q n=>by rw[e8 (λz:b=p=>n (by rw[z];exact Q))];exact q,λb z=>.inl z⟩
    have E:aR H1 p (.ins C dx ((fs++[m]).zip (us++[.ref ad]))) ad=↑(.lst vs):=by rw[e8 (Ne.symm R)];exact P
    have J:aO X.K G (b_ W1 ad) (aR H1 p (.ins C dx ((fs++[m]).zip (us++[.ref ad])))) ps as us:=S.step (λb ws T z=>⟨(S.own T).1,by rw[e8 (λy:b=p=>by subst y;exact(cb.mp d).1 T)];exact z⟩) (λ_ _ r=>D.rep st r) λ_ _ r=>D.reps st r;have Y:(fs++[m]).length=(us++[V.ref ad]).length:=by rw[bd,bd,e];rfl
    obtain⟨w1,w2⟩:=D.chgN (l:=ad) (s':=.ag (.ins true M (fs++[m])) l (ps++[.o r.1])) (.i C dx ((fs++[m]).zip (us++[.ref ad]))) u B (.inl rfl)
     ⟨p,as++[ad],us++[.ref ad],rfl,Q,by
      rw[cb] at d ⊢;refine⟨λz=>?_,List.nodup_append.mpr ⟨d.2,by simp,λy hy z A=>?_⟩⟩
      ·rcases dh.mp z with z |z
       ·exact d.1 z
       ·exact R (b6.mp z)
      ·rw[b6.mp A];exact λw=>na (w ▸ hy),hr,⟨C,dx,t,j9,Y⟩,J.snoc (.inr rfl) E (D.reps st rp)⟩
     (λj s v f e4=>U.noOwn O j s v f e4) λb L=>by
       rcases L with L | ⟨p',us',z,y,j,ds,h1,h2⟩
       ·exact .inl (.inl L)
       ·cases z
        have ey:us'=us++[.ref ad]:=qa (K:=X.K) (k:=.ins true M (fs++[m])) (us:=us++[.ref ad]) ⟨C,dx,t,j9,Y⟩ y;rw[ey] at h2;by_cases Z:j<ps.length
        ·rw[ao Z] at h1
         rw[ao (by rw[<-S.length];exact Z)] at h2;exact .inl (.inr ⟨p,us,rfl,⟨e,C,dx,I⟩,j,ds,h1,h2⟩)
        ·rw[bj (by rw[<-S.length];lia),<-S.length] at h2
         cases hjj:j-ps.length with
         |zero=>rw[hjj] at h2;simp at h2;exact .inr h2.symm |succ n=>rw[hjj] at h2;simp at h2
    rw[sH hf e];exact k _ σ _ (s1.trans w2) w1⟩
end L2
namespace L2
open PySem
abbrev jf:d3:=["kept", "states"]
end L2
namespace L2
open PySem PySem.Spec PyProof.Rows
def yd(i:Nat)(g:FE)(F:FA):FS:=λe=>(F e).bind λr=>match r.2[i]? with
 |some ↑(.o2 dss)=>(g (hZ r.2)).bind λq=>(match q.1 with | .int k=>(eQ dss.length k).map λj=>(.nx,r.2.set i ↑(.o2 (dss.set j r.1))) |_=>none)
 |_=>none
def AZ(i:Nat)(g h f:FE):FS:=λe=>(f e).bind λr=>match r.2[i]? with
 |some ↑(.o2 dss)=>(g (hZ r.2)).bind λq=>(h (hZ r.2)).bind λp=>(match q.1,p.1 with
   | .int k,.int m=>(eQ dss.length k).bind λj=>(dss[j]?).bind λds=>(eQ ds.length m).map λn=>(.nx,r.2.set i ↑(.o2 (dss.set j (ds.set n r.1))))
   |_,_=>none)
 |_=>none
end L2
namespace L2
open PySem PySem.Spec PyProof.Rows PySem.F
end L2
namespace L2
open PySem PySem.Spec PyProof.Rows
def fH(N:d3)(sc:Scope):d3:=N.filter λu=>sc.names.lookup u==some .cell
def fT(N ps:d3)(sc:Scope):Bool:=decide (sc.kind=.function) && !sc.isCoroutine && !sc.isGenerator && decide N.Nodup && decide (N.take ps.length=ps) && decide (∀y∈sc.names,y.2≠.free) && N.all λx=>fV x && (sc.names.lookup x==some .local || sc.names.lookup x==some .cell)
variable{N ps:d3}{sc:Scope}
def lz(h:fT N ps sc=true):mq N ps sc/\∀x∈N,Loc sc x/\(x==("__debug__" : Str))=false/\(x==("__classdict__" : Str))=false:=by
 unfold fT at h;simp only[df,lh,i3,ft] at h;obtain⟨⟨⟨⟨⟨⟨h1,h2⟩,U⟩,V⟩,I⟩,Y⟩,c⟩:=h;have S:∀x∈N,Loc sc x/\(x==("__debug__" : Str))=false/\(x==("__classdict__" : Str))=false:=λx D=>by
  obtain⟨a,b⟩:=c x D;have a:=oh a;rcases Bool.or_eq_true _ _ ▸ b with b |b
  ·exact⟨.inl (o5 b),a⟩
  ·exact⟨.inr (o5 b),a⟩
 exact⟨⟨h1,h2,U,V,I,λx D=>(S x (by rw[<-I] at D;exact List.mem_of_mem_take D)).1,Y⟩,S⟩
variable{P:Program}{w:World}{K:e5}{mg:Str->eb}{base:Heap}{CX:fN}{qual:Str}{f:Addr}{cdv:Value}{A:Around}{outer:ep}{s:Shared}{H:Hp}{E:XK}
def n8(h:fT N ps sc=true):bI N (fH N sc) (aX CX P w K mg base N qual sc f cdv A outer s H E) :=
 ⟨rfl,λi x e=>let z:=(lz h).2 x (br e);⟨e,z.1.elim .inl λq=>.inr (.inl q),z.2.1,z.2.2⟩,λu D=>by
  obtain⟨_,h2⟩:=jq.mp D;exact .inl (o5 h2)⟩
def n6(h:fT N ps sc=true):cS N (aX CX P w K mg base N qual sc f cdv A outer s H E) :=
 ⟨λi x e=>⟨(lz h).1.nd,e,((lz h).2 x (br e)).1,.inl rfl⟩⟩
variable{X:Cx}{i:Nat}{x:Str}{pos:Pos}
def cS.pg(t:cS N X)(h:‹N[i]?=↑x›):PG X (.Name x pos) (ki i):=zw (t.t h).nd (t.t h).n (t.t h).l (t.t h).f
variable{G:Gd}{H0:Hp}{e:Expr}{p':Pos}{F:FA}
def cS.psF(t:cS N X)(D:fX X G H0 e F)(h:‹N[i]?=↑x›)(I:‹swapsWith e ↑(.Name x p') pos.line X.env=pure false›):PS X (.Assign [.Name x p'] e pos) (eD (gD X.K G H0 F) (ki i)):=zd (t.t h).nd (t.t h).n (t.t h).l D.out I (t.t h).f
variable{P:d5->Prop}
def A_(h:P [])(us:d5)(e:us.length=0):P us:=mz e ▸ h
variable{n:Nat}
def k9(h:∀a,∀us:d5,us.length=n->P (a::us))(us:d5)(e:us.length=n+1):P us:=by
 cases us with
 |nil=>cases e
 |cons a us=>exact h a us (Nat.succ.inj e)
def us1(h:∀a,P [a]):∀us,us.length=1->P us:=k9 λa=>A_ (h a)
def us2(h:∀a b,P [a,b]):∀us,us.length=2->P us:=k9 λa=>us1 (P:=λus=>P (a::us)) (h a)
def us3(h:∀a b c,P [a,b,c]):∀us,us.length=3->P us:=k9 λa=>us2 (P:=λus=>P (a::us)) (h a)
def us4(h:∀a b c d,P [a,b,c,d]):∀us,us.length=4->P us:=k9 λa=>us3 (P:=λus=>P (a::us)) (h a)
def us5(h:∀a b c d e,P [a,b,c,d,e]):∀us,us.length=5->P us:=k9 λa=>us4 (P:=λus=>P (a::us)) (h a)
def cF(K:e5)(mg:Str->eb)(st:Stmt)(x:Str)(ps:d3):Prop:=∃f fd,fA K x x st f fd/\Binds K fd ps []/\mg x=↑(.ref f)
def gJ(K:e5)(C:Addr)(st:Stmt)(x qual:Str)(ps:d3):Prop:=∃f fd,fA K x qual st f fd/\Binds K fd ps []/\gH K C x f
variable{P:Program}{st:Stmt}{k ar:Nat}{g:FS}
theorem j7(T:cF K mg st x ps)(N:d3)(D:∀ {f:Addr} {cdv:Value} {A:Around} {outer:ep} {s:Shared} {H:Hp} {E:XK} {G:Gd} {H0:Hp},aP k (A.deeper (envOfC x (d4 st) s.heap.objs.size f cdv)) ->
   bI N (fH N (d4 st)) (aX bO P w K mg base N x (d4 st) f cdv A outer s H E).nox->cS N (aX bO P w K mg base N x (d4 st) f cdv A outer s H E).nox->dU (aX bO P w K mg base N x (d4 st) f cdv A outer s H E).nox G H0 (jg st) g)(h:fT N ps (d4 st)=true:=by decide +kernel)(I:fV x=true:=by decide +kernel)(S:‹n=N.length›)(U:‹ar=ps.length›):bV P w K mg base bO x (k+1) (dB K (aY n ar g)):=by
 obtain⟨f,fd,F,b,m⟩:=T;exact⟨f,fd,ps,kv F (lz h).1 S U λcdv A outer s H E G H0 V=>D V (n8 h).nox (n6 h).nox,m,F.kp,b,(oh I).1⟩
theorem Ba(T:cF K mg st x ps)(N:d3)(D:∀ {f:Addr} {cdv:Value} {A:Around} {outer:ep} {s:Shared} {H:Hp} {E:XK} {G:Gd} {H0:Hp},aP k (A.deeper (envOfC x (d4 st) s.heap.objs.size f cdv)) ->
   bI N (fH N (d4 st)) (aX bO P w K mg base N x (d4 st) f cdv A outer s H E).nox->cS N (aX bO P w K mg base N x (d4 st) f cdv A outer s H E).nox->dU (aX bO P w K mg base N x (d4 st) f cdv A outer s H E).nox G H0 (jg st) g)(h:fT N ps (d4 st)=true:=by decide +kernel)(I:fV x=true:=by decide +kernel)(S:‹n=N.length›)(U:‹ar=ps.length›):bV P w K mg base bO x (k+1) (jD K (fQ n ar g)):=by
 obtain⟨f,fd,F,b,m⟩:=T;exact⟨f,fd,ps,mL F (lz h).1 S U λcdv A outer s H E G H0 V=>D V (n8 h).nox (n6 h).nox,m,F.kp,b,(oh I).1⟩
abbrev Bd(P:Program)(w:World)(K:e5)(mg:Str->eb)(base:Heap)(N:d3)(qual:Str)(st:Stmt)(k:Nat)(g:FS):Prop:=∀ {f:Addr} {cdv:Value} {A:Around} {outer:ep} {s:Shared} {H:Hp} {E:XK} {G:Gd} {H0:Hp},aP k (A.deeper (envOfC qual (d4 st) s.heap.objs.size f cdv)) ->
   bI N (fH N (d4 st)) (aX (cP P w) P w K mg base N qual (d4 st) f cdv A outer s H E)->cS N (aX (cP P w) P w K mg base N qual (d4 st) f cdv A outer s H E)->dU (aX (cP P w) P w K mg base N qual (d4 st) f cdv A outer s H E) G H0 (jg st) g
theorem cF.cal{sp:Sp}(T:cF K mg st x ps)(D:fV x=true)(h:∀f fd,fA K x x st f fd->bD P w K mg base CX k f fd ps sp):bV P w K mg base CX x k sp:=by
 obtain⟨f,fd,F,b,m⟩:=T;exact⟨f,fd,ps,h f fd F,m,F.kp,b,(oh D).1⟩
variable{p:Nat}
def o6(T:cF K mg st x ps)(N:d3)(D:Bd P w K mg base N x st k g)(h:fT N ps (d4 st)=true:=by decide +kernel)(I:fV x=true:=by decide +kernel)(S:‹n=N.length›)(U:‹p+ar=ps.length›):bV P w K mg base (cP P w) x (k+1) (eG K (bG n p ar g) (xQ n p ar g)) :=
 T.cal I λf fd F=>rZ F (lz h).1 S U λcdv A outer s H E G H0 V=>D V (n8 h) (n6 h)
variable{C:Addr}{cn:Str}
def uw(D:Cl K cn C)(c:fM K C)(T:gJ K C st x qual ps)(N:d3)(I:Bd P w K mg base N qual st k g)(h:fT N ps (d4 st)=true:=by decide +kernel)(S:‹n=N.length›)(U:‹p+ar=ps.length›):dY P w K mg base cn x (k+1) (eG K (bG n p ar g) (xQ n p ar g)):=by
 obtain⟨f,fd,F,b,m⟩:=T;exact⟨C,f,fd,ps,c,m,rZ F (lz h).1 S U λcdv A outer s H E G H0 V=>I V (n8 h) (n6 h),b,D⟩
def sJ(D:Cl K cn C)(c:fM K C)(T:gJ K C st x qual ps)(N:d3)(I:Bd P w K mg base N qual st k g)(h:fT N ps (d4 st)=true:=by decide +kernel)(S:‹n=N.length›)(U:‹p+ar=ps.length›):dY P w K mg base cn x (k+1) (hO K (dZ n p ar g) (xL n p ar g)):=by
 obtain⟨f,fd,F,b,m⟩:=T;exact⟨C,f,fd,ps,c,m,r_ F (lz h).1 S U λcdv A outer s H E G H0 V=>I V (n8 h) (n6 h),b,D⟩
def Bb(D:Cl K cn C)(I:mg cn=↑(.ref C))(S:PySem.W.makesIn K C=true)(U:PySem.W.keepIn K (.ref C)=true)(T:gJ K C st "__init__" qual ps)(N:d3)(V:Bd P w K mg base N qual st k g)(h:fT N ps (d4 st)=true:=by decide +kernel)(Y:fV cn=true:=by decide +kernel)(a:‹n=N.length›)(c:‹p+ar=ps.length›) :
  iV P w K mg base cn (k+1) (hO K (dZ n p ar g) (xL n p ar g)):=by
 obtain⟨f,fd,F,b,m⟩:=T;exact⟨C,f,fd,ps,⟨S,m.at_,m.fn,U⟩,r_ F (lz h).1 a c λcdv A outer s H E G H0 d=>V d (n8 h) (n6 h),I,b,D,(oh Y).1⟩
def Bc(N:d3)(D:∀ {f:Addr} {cdv:Value} {A:Around} {outer:ep} {s:Shared} {H:Hp} {E:XK} {G:Gd} {H0:Hp},aP k (A.deeper (envOfC x (d4 st) s.heap.objs.size f cdv)) ->
   bI N (fH N (d4 st)) (aX bO P w K mg base N x (d4 st) f cdv A outer s H E).nox->cS N (aX bO P w K mg base N x (d4 st) f cdv A outer s H E).nox->dU (aX bO P w K mg base N x (d4 st) f cdv A outer s H E).nox G H0 (jg st) g)(h:fT N ps (d4 st)=true:=by decide +kernel)(I:‹n=N.length›)(S:‹ar=ps.length›):∀f fd,fA K x x st f fd->bD P w K mg base bO (k+1) f fd ps (dB K (aY n ar g)) :=
 λf fd F=>kv F (lz h).1 I S λcdv A outer s H E G H0 U=>D U (n8 h).nox (n6 h).nox
variable{h:Heap}{oc:Value}{od an:Option Addr}{osl:Array eb}
def law_mk{U:Addr}{s:Str}{m:fh->fk}{kV I V cdv ct:Value}(X:K.In h)(G:h.Ns mainGlobals mg)(S:mg x=↑(.ref U))(a:PySem.W.nsIn K mainGlobals x=↑↑(.ref f))(l:K.lookup f=↑⟨oc,od,.func (PySem.W.fnOf x x (oy st) (jg st) (d4 st) .none kV I V an cdv ct),osl⟩)(c:PySem.W.codeIn K cdv x=true)(k':PySem.W.keepIn K (.ref f)=true)(Y:∀v:Value,bindArgs (PySem.W.fnOf x x (oy st) (jg st) (d4 st) .none kV I V an cdv ct) ⟨[v],[]⟩=pure [(s,v)])(F:∀base f fd,fA K x x st f fd->bD P w K mg base bO k f fd [s] (dB K m))(good:∀ns:ei,ns.length<=63->m [.lst (ns.map D.int)]=↑(.bl true)) :
  ∃fd:FuncData,(∀(t:Shared) (v:Value),BindsTo t fd ⟨[v],[]⟩ [(s,v)])/\∀base:Heap,K.In base->base.Ns mainGlobals mg->bD P w K mg base bO k U fd [s] (ve K):=by
 have e:=S.symm.trans (i6 X G a);cases e;exact⟨_,λt v=>.of_eq (Y v),λbase _ _=>Ac (F base _ _ (zb l c k')) good⟩
def walkD{l:PySem.W.OpenLaw}{q:Program}{D:d3}{V:(Str->eb)->Heap->Prop}{S:World->Heap->Prop}{d:DefRec}{K:Params->e5}{s:Str}(Y:aP k callerA)(b:l.most=↑63)(I:d.params.defaults=[])(c:∀(w:World) (h:Heap),S w h->(K w.params).In h)(F:∀(w:World) (mg:Str->eb) (U:Addr) (h:Heap),(K w.params).In h->h.Ns mainGlobals mg->mg d.name=↑(.ref U) ->
   ∃fd:FuncData,(∀(t:Shared) (u:Value),BindsTo t fd ⟨[u],[]⟩ [(s,u)])/\∀base:Heap,(K w.params).In base->base.Ns mainGlobals mg->bD l.prog w (K w.params) mg base bO k U fd [s] (ve (K w.params))) :
  PySem.W.WalkO q D V S l.row.toRowW d [] (λf vs=>PySem.call f vs) :=
 x_ (n:=63) (k:=k) (x:=s) (CX:=λ_=>bO) (sp:=λw=>ve (K w.params)) b (by decide) I Y c F (λ_ _ a ns e _ g=>⟨a,ns,rfl,g,e,λ_=>rfl⟩) λ_ _ _ _ _ z=>z
def def_mk{kV D I cdv ct:Value}(X:K.In h)(G:h.Ns mainGlobals mg)(a:PySem.W.nsIn K mainGlobals x=↑↑(.ref f))(l:K.lookup f=↑⟨oc,od,.func (PySem.W.fnOf x x (oy st) (jg st) (d4 st) .none kV D I an cdv ct),osl⟩)(c:PySem.W.codeIn K cdv x=true)(k:PySem.W.keepIn K (.ref f)=true)(S:∀us:d5,us.length=ps.length->bindArgs (PySem.W.fnOf x x (oy st) (jg st) (d4 st) .none kV D I an cdv ct) ⟨us,[]⟩=pure (ps.zip us)):cF K mg st x ps :=
 ⟨f,_,zb l c k,.all S,i6 X G a⟩
def exc_mk{c:Str}(X:K.In h)(G:h.Ns mainGlobals mg)(a:PySem.W.nsIn K mainGlobals c=↑↑(.ref C))(b:PySem.W.excIn K C mZ "ValueError.__new__" = true)(d:fV c=true):hU K mg c:=⟨C,a,b,i6 X G a,(oh d).1⟩
def con_mk{z:Int}{t:Tok}(X:K.In h)(G:h.Ns mainGlobals mg)(a:PySem.W.nsIn K mainGlobals x=↑↑(.int z t)):∃t,mg x=↑(.int z t):=⟨t,i6 X G a⟩
def mef_mk{kV D I cdv ct:Value}(a:PySem.W.findIn K (.ref C) x=↑↑(.ref f))(l:K.lookup f=↑⟨oc,od,.func (PySem.W.fnOf x qual (oy st) (jg st) (d4 st) .none kV D I an cdv ct),osl⟩)(c:PySem.W.codeIn K cdv qual=true)(k:PySem.W.keepIn K (.ref f)=true)(i:PySem.W.isFn K (.ref f)=true)(S:∀us:d5,us.length=ps.length->bindArgs (PySem.W.fnOf x qual (oy st) (jg st) (d4 st) .none kV D I an cdv ct) ⟨us,[]⟩=pure (ps.zip us)):gJ K C st x qual ps :=
 ⟨f,_,zb l c k,.all S,a,i,k⟩
def dO(n ar:Nat)(g:(fh->fk)->FS):Nat->fh->fk
 |0=>λ_=>none |i+1=>aY n ar (g (dO n ar g i))
def Be{b:List Stmt}:dU X G H0 b (λ_=>none):=⟨λpins s σ H D I q=>by
 obtain⟨W,env,fl,env',ok,q,k⟩:=q;cases q⟩
def sK{P:Program}{w:World}{K:e5}{mg:Str->eb}{base:Heap}{ps:d3}{x:Str}{st:Stmt}{n ar:Nat}{g:(fh->fk)->FS}(T:cF K mg st x ps)(N:d3)(V:∀(j:Nat) (m:fh->fk) {f:Addr} {cdv:Value} {A:Around} {outer:ep} {s:Shared} {H:Hp} {E:XK} {G:Gd} {H0:Hp},bV P w K mg base bO x j (dB K m)->aP j (A.deeper (envOfC x (d4 st) s.heap.objs.size f cdv)) ->
   bI N (fH N (d4 st)) (aX bO P w K mg base N x (d4 st) f cdv A outer s H E).nox->cS N (aX bO P w K mg base N x (d4 st) f cdv A outer s H E).nox->dU (aX bO P w K mg base N x (d4 st) f cdv A outer s H E).nox G H0 (jg st) (g m))(h:fT N ps (d4 st)=true:=by decide +kernel)(I:fV x=true:=by decide +kernel)(S:‹n=N.length›)(U:‹ar=ps.length›):∀i,bV P w K mg base bO x (i+1) (dB K (dO n ar g i))
 |0=>by
   have c:=j7 (k:=0) (g:=λ_=>none) (n:=n) (ar:=ar) (base:=base) (w:=w) (P:=P) T N (λ_ _ _=>Be) h I S U;have e:aY n ar (λ_=>none)=dO n ar g 0:=by
    funext ds;unfold aY dO;split <;> rfl
   rw[<-e];exact c
 |i+1=>j7 (k:=i+1) (g:=g (dO n ar g i)) T N (λr a t=>V (i+1) (dO n ar g i) (sK T N V h I S U i) r a t) h I S U
def Bf{g:(fh->fk)->FS}(i:Nat)(T:cF K mg st x ps)(N:d3)(I:∀(j:Nat) (m:fh->fk) {f:Addr} {cdv:Value} {A:Around} {outer:ep} {s:Shared} {H:Hp} {E:XK} {G:Gd} {H0:Hp},bV P w K mg base bO x j (dB K m)->aP j (A.deeper (envOfC x (d4 st) s.heap.objs.size f cdv)) ->
   bI N (fH N (d4 st)) (aX bO P w K mg base N x (d4 st) f cdv A outer s H E).nox->cS N (aX bO P w K mg base N x (d4 st) f cdv A outer s H E).nox->dU (aX bO P w K mg base N x (d4 st) f cdv A outer s H E).nox G H0 (jg st) (g m))(h:fT N ps (d4 st)=true:=by decide +kernel)(S:fV x=true:=by decide +kernel)(U:‹n=N.length›)(V:‹ar=ps.length›):bV P w K mg base bO x (i+1) (dB K (dO n ar g i)):=sK T N I h S U V i
def iX(o:Obj)(C:Addr):Prop:=∃vs,o.cls=.ref C/\o.data=.fields vs/\vs[2]?=some .none
def Bg:entryFor table "proto.unchain" = ↑Builtin.«proto.unchain»:=entryFor_of_fast (by kernel_rfl)
variable{E:Value->Shared->Prop}{oc:Obj}{prog:Program}
def Bh{α:Type}{x c:Addr}{ox:Obj}{D:fc}{Q:α->Shared->Prop}(S:A.handled=↑(.ref c))(U:s.heap.get? c=↑oc)(V:iX oc C)(I:s.heap.get? x=↑ox)(hd:ox.data=.fields D)(h2:2<D.size)(Y:c≠x)(h:E (.ref x) { s with heap:=s.heap.update x (Obj.mapFields (·.setIfInBounds 2 (.ref c))) }):wpAny (model prog w) A (raiseNew (.ref x):Sem α) Q E s:=by
 refine av (wpAny_handled ?_);rw[S];dsimp only;rw[am (by simp[Y])];obtain⟨d,e,a,b⟩:=V;refine av (gi (wpAny_runValue (codeAny_builtin Bg ?_)));refine av (gk U a b ?_);refine av (cq (cq ?_));refine av ?_;refine av (wpAny_load I ?_);rw[hd];dsimp only;rw[am h2];exact wpAny_update I (wpAny_throw h)
theorem Bi{it:Addr}{x left step:Int}{c:Addr}{Q:eb->Shared->Prop}(U:A.handled=↑(.ref c))(S:s.heap.get? c=↑oc)(V:iX oc C)(D:IsRangeIter s.heap it x left step)(I:left<=0)(Y:∀h',Heap.ExtBut it s.heap h'->Q none { s with heap:=h' }):wpAny (model prog w) A (pyNext (.ref it)) Q E s:=by
 have hT:s.TypeIs (.ref it) "range_iterator":=⟨_,D,rfl⟩;refine av (wpAny_attempt (wpAny_callSpecial?_slot (name:=Str.ofString "__next__") hT F.slot_range_iterator_next
  (wpAny_call_entry F.slot_range_iterator_next hT F.entry_range_iterator_next ?_ (F.args_range_iterator_next_1 _))))
 show wpAny _ _ (field (.ref it) 0 >>= _) _ _ s;refine av (gk D rfl (x:=rawInt x) rfl ?_);show wpAny _ _ (field (.ref it) 1 >>= _) _ _ s;refine av (gk D rfl (x:=rawInt left) rfl ?_);refine av (gk D rfl (x:=rawInt step) rfl ?_);show wpAny _ _ (if left<=0 then _ else _) _ _ s;rw[am I];refine av (wpAny_rule ?_);refine av ?_;refine av ?_;refine av (m:=firstArgMember _ _) (wpAny_of_eq (a:=Value.none) (by first |rfl | (simp only[firstArgMember];rfl)) ?_);refine jm ?_ (by size_fits);refine Bh (show A.in1.handled=↑(.ref c) from U) (aj _ (aj _ S)) V (b9 _ rfl) rfl (by simp;lia) (bo (by rw[gv];exact eg (bc S))) ?_;refine av (wpAny_isInstance (T:="StopIteration") (b:=true) ⟨_,dz _ (b9 _ rfl) (by rfl),rfl⟩ isSubtype_stop ?_);refine cq (Y _ λb o d e=>?_);rw[bq _ _ (λz=>absurd (z ▸ bc e) (by rw[gv];exact Nat.not_lt.mpr (j4 _)))];exact aj _ (aj _ e)
end L2
namespace L2
open PySem PySem.Spec PyProof.Rows PySem.W
structure fI (K:e5) (C:Addr):Prop where
 ga:PySem.W.findIn K (.ref C) "__getattribute__" = ↑↑(.builtin "BaseException.__getattribute__")
 hk:PySem.W.findIn K (.ref C) "__getattr__" = ↑none
 fd:PySem.W.findObj K C none "__class__" = ↑(.bind (.builtin "getset_descriptor.__get__") (.builtin "object.__class__"))
 ob:PySem.W.mroIn K C (.type "object")=↑true
 be:PySem.W.mroIn K C (.type "BaseException")=↑true
variable{K:e5}{w:World}{A:Around}{E:Value->Shared->Prop}{s:Shared}{x:Str}{C:Addr}{Q:Unit->Shared->Prop}
theorem Bj{prog:Program}{x:Addr}{ox:Obj}{Q:eb->Shared->Prop}(c:fI K C)(X:K.In s.heap)(I:PySem.W.InstAt s.heap x ox C none)(h:Q ↑(.ref C) { s with toks:=s.toks+1 }):wpAny (model prog w) A (getAttr? (.ref x) "__class__") Q E s:=by
 obtain⟨D,g,d,t,os⟩:=s;have S:=I.type (M:=model prog w);have U:=looks_findIn (M:=model prog w) X c.ga;have V:=looks_findIn (M:=model prog w) X c.hk;have Y:=looks_find (M:=model prog w) X I c.fd;have a:=looks_mroIn (M:=model prog w) X c.be;refine av (wpAny_mkText (av (wpAny_attempt (gi (av (S.at (av (U.at ?_))))))));refine av (m:=hookBefore _) (V.at ?_);refine av (wpAny_attempt (gi ?_));refine av (cq (ke ?_));refine codeAny_call_builtin F.excAttr_ValueError.ga.plain F.entry_bexc_ga ?_;have b:Looks (model prog w) D (isInstance (.ref x) (.type "BaseException")) true:=S.andThen a;refine av (b.at ?_);repeat (first |wp_step |assumption)
 refine wpAny_loadPart_at I.at_ ?_;rw[I.cls];refine cq (av (Y.at ?_));refine av (gi (ke (class_get (s:=⟨D,g,d,t+1,os⟩) (ox:=ox) (od:=none) X I c.ob ?_)));exact cq (handed_on rfl (cq h))
def iY(o:Obj)(C:Addr):Prop:=iX o C/\o.dict=none
variable{h:Heap}{ea:Addr}{o:Obj}
def iY.inst(e:h.get? ea=↑o)(x:iY o C):PySem.W.InstAt h ea o C none:=by
 obtain⟨⟨vs,h1,h2,_⟩,D⟩:=x;exact⟨e,h1,by unfold notCls;rw[h2],by rw[D];trivial⟩
def Bl(c:fI K C):KitX K (.ref ea) (.ref C) (λh=>∃ox,PySem.W.InstAt h ea ox C none):=by
 obtain⟨b,D,_⟩:=b0.mp c.fd;unfold clsIn at D;split at D;case h_2=>cases D
 rename_i d d' V Y U;exact⟨λ_ _ _ ⟨_,I⟩=>I.type,λ_ _ X _ f g i s' k q=>by
   exact av (wpAny_loadPart (k _ _ (X _ _ U)) (cq q)),
  λh a dd its n sl X S=>Bool.eq_false_iff.mpr λq=>by
   have e:C=a:=Value.ref.inj (im.mp q);subst e;have z:=(X _ _ U).symm.trans S
   (injection z with z;injection z with _ _ z;cases z),
  λX ⟨_,I⟩ k=>Bj c X I k⟩
structure Hd (ea C:Addr) (X:Cx):Prop where
 hh:X.A.handled=↑(.ref ea)
 ob:∃o,X.s₀.heap.get? ea=↑o/\iY o C
 h0:X.H₀ ea=none
 nf:ea∉X.fs
 nx:ea∉X.ex
variable{X:Cx}{pins:e9}{σ:St}{H:Hp}
def Hd.at(h:Hd ea C X)(I:Inv X pins σ H s):∃o,s.heap.get? ea=↑o/\iY o C/\H ea=none :=
 let ⟨o,e,c⟩:=h.ob;⟨o,I.base.keep ea o e h.h0 h.nf h.nx,c,I.base.free ea o e h.h0 h.nx⟩
variable{sc:Scope}
def Hd.comp{N':d3}{cl:List (Str×Addr)}{D:Addr}{fp:ed}(h:Hd ea C X)(I:Inv X pins σ H s)(S:∀b∈fp,cG X pins H b):Hd ea C (ir X x N' sc cl D s H fp):=by
 obtain⟨V,U,_⟩:=h.ob;obtain⟨o,e,c,n⟩:=h.at I;have lt:=bc U;refine⟨h.hh,⟨o,e,c⟩,n,λz=>?_,λz=>?_⟩
 ·rcases bz.mp (I.stkSub ea z) with q |q
  ·exact absurd (az lt (q ▸ I.ok.above)) (dy _)
  ·exact h.nf q
 ·rcases(S ea z).2.2.2.1 with q |q
  ·exact h.nx q
  ·exact absurd (az lt q) (dy _)
variable{P:Program}
theorem Bm{tg:Expr}(it:Addr)(lo:Int)(n:Nat):pz (Hd ea C) P w K tg (iE lo n) [it] it (λi h=>IsRangeIter h it (lo+(i:Nat)*1) ((n:Int)-(i:Nat)) 1) where
 mem:=by simp
 obj:=(wp (P:=P) (w:=w) (K:=K) (tg:=tg) it lo n).obj
 keep:=(wp (P:=P) (w:=w) (K:=K) (tg:=tg) it lo n).keep
 item:=by
  intro X hP m p a i pins s σ H E I V st Y;obtain⟨d,f,q,g,j,k⟩:=V it ⋯;have Y:i<n:=Y;refine wpAny_pyNext_range_item st ∅ λh' D l=>?_;have r:Inv X pins σ H { s with heap:=h',toks:=s.toks+1 }:=I.turned (λb o S e=>l.extBut b o S e) d f g j k;have t:lo+((i+1:Nat):Int)*1=lo+(i:Int)*1+1:=by lia
  have u:(n:Int)-((i+1:Nat):Int)=(n:Int)-(i:Int)-1:=by lia
  have U:IsRangeIter h' it (lo+((i+1:Nat):Int)*1) ((n:Int)-((i+1:Nat):Int)) 1:=by rw[t,u];exact D
  refine⟨_,rfl,u9 (s:={ s with heap:=h',toks:=s.toks+1 }) (n:="range_iterator") U rfl rfl (by decide) ⟨.int (lo+i),H,r,⟨s.toks,?_⟩,⟨rfl,rfl⟩,U,λb S=>(V b S).1⟩⟩;rw[Int.mul_one]
 done:=by
  intro X hP m p a i pins s σ H E I V st Y;obtain⟨d,f,q,g,j,k⟩:=V it ⋯;obtain⟨o,e,⟨c,_⟩,_⟩:=a.at I;exact Bi a.hh e c st (by have:n<=i:=Y;lia) λh' v=>⟨rfl,I.turned (t':=s.toks) (λb o S e=>v b o S e) d f g j k⟩
 self:=(wp (P:=P) (w:=w) (K:=K) (tg:=tg) it lo n).self
variable{a e:Expr}
def bP(ea:Addr)(i:Nat)(b:Bool):FE:=λe=>match e[i]? with |some ⇑(.exc a)=>if a=ea then ↑(.bl b,e) else none |_=>none
variable{b:Expr}
def Bo(hd:Hd ea C X)(S:fI X.K C):l4 X (.builtin "isinstance") (λxs H Q=>∃v u b,xs=[.ref ea,v]/\RelV v u/\(∀D,RelV v D->D=u)/\PySem.W.kitOne X.K (.ref C) u=↑b/\Q (.bl b) H):=by
 intro pins s σ H xs us Q I r h;obtain⟨v,u,b,rfl,_,U,e,q⟩:=h;obtain⟨V,D,rfl,Y,rt⟩:=pG r;cases (show V=Value.ref ea from Y);cases U D rt;obtain⟨o,a,c,_⟩:=hd.at I;exact cx (Bl S) I.kIn ⟨o,c.inst a⟩ e (λz=>nomatch z) λtk=>⟨.bl b,H,I.tok tk,rfl,q⟩
variable{b:Bool}{Nn Cn:d3}{i:Nat}{cn:Str}{G:Gd}{H0:Hp}{pos p' p1 p2:Pos}
def sL{v:V}{u:Value}(hd:Hd ea C X)(f:fI X.K C)(h:PE X (.Name cn p2) (tC v))(j:RelV v u)(l:∀Y,RelV v Y->Y=u)(n:PySem.W.kitOne X.K (.ref C) u=↑b)(an:bI Nn Cn X)(c:Bn X "isinstance":=by walk_at "b")(D:‹Nn[i]?=↑x›)(e:‹starEach [.Name x p1,.Name cn p2] X.env=(false,eval (.Name x p1) X.env)::starEach [.Name cn p2] X.env›)(I:‹starEach [.Name cn p2] X.env=(false,eval (.Name cn p2) X.env)::starEach [] X.env›)(S:‹(backTo pos (starEach [.Name cn p2] X.env)).any (·.1)=false›) :
  aN X G H0 (.Call (.Name "isinstance" p') [.Name x p1,.Name cn p2] [] pos) (bP ea i b) :=
 ⟨(rq (Bo hd f) c.g c.m mE (j6 ((an.a D).pe) (j6 h lx I) e) (by decide) (by decide) e S).imp λσ H Q o=>by
  obtain⟨W,env,d,env',ok,q,k⟩:=o;unfold bP at q;split at q
  ·rename_i t p
   split at q;case isFalse=>cases q
   rename_i U;subst U;cases q;obtain⟨w,s,r⟩:=ok.slot i _ p;obtain rfl:=aQ.exc_ r;exact⟨_,s,v,u,b,rfl,j,l,n,k W _ H Step.refl ok (.bl b)⟩
  ·cases q⟩
variable{g:FE}
def Bp{R:Addr}(hd:Hd ea C X)(V:fI X.K C)(Y:X.mg cn=↑(.ref R))(a:PySem.W.kitOne X.K (.ref C) (.ref R)=↑b)(an:bI Nn Cn X)(c:Gl X cn:=by walk_at "g")(D:(cn==("__debug__" : Str))=false:=by decide)(d:Bn X "isinstance":=by walk_at "b")(I:‹Nn[i]?=↑x›)(e:‹starEach [.Name x p1,.Name cn p2] X.env=(false,eval (.Name x p1) X.env)::starEach [.Name cn p2] X.env›)(S:‹starEach [.Name cn p2] X.env=(false,eval (.Name cn p2) X.env)::starEach [] X.env›)(U:‹(backTo pos (starEach [.Name cn p2] X.env)).any (·.1)=false›) :
  aN X G H0 (.Call (.Name "isinstance" p') [.Name x p1,.Name cn p2] [] pos) (bP ea i b):=sL hd V (oZ (v:=.ref R) c Y rfl D) rfl (λ_ z=>z) a an d I e S U
def Bq:bootBuiltins "ValueError" = ↑(.type "ValueError"):=by decide +kernel
def Br(hd:Hd ea C X)(V:fI X.K C)(Y:PySem.W.kitOne X.K (.ref C) (.type "ValueError")=↑b)(an:bI Nn Cn X)(U:Bn X "ValueError":=by walk_at "b")(a:Bn X "isinstance":=by walk_at "b")(D:‹Nn[i]?=↑x›)(c:‹starEach [.Name x p1,.Name "ValueError" p2] X.env=(false,eval (.Name x p1) X.env)::starEach [.Name "ValueError" p2] X.env›)(I:‹starEach [.Name "ValueError" p2] X.env=(false,eval (.Name "ValueError" p2) X.env)::starEach [] X.env›)(S:‹(backTo pos (starEach [.Name "ValueError" p2] X.env)).any (·.1)=false›) :
  aN X G H0 (.Call (.Name "isinstance" p') [.Name x p1,.Name "ValueError" p2] [] pos) (bP ea i b):=sL hd V (zx (v:=.ty "ValueError") U.g U.m Bq rfl) rfl (λ_ z=>z) Y an a D c I S
def gK:fh->fk | [.lst ds]=>↑(.tup ds) |_=>none
def Bs:bootBuiltins "tuple" = ↑(.type "tuple"):=by decide +kernel
def Bt:pw X G H0 (λxs H Q=>∃p ys,xs=[.ref p]/\((cK X.K H p ys/\∀l,H l=none->Q (.ref l) (aR H l (.tup ys)))\/(dA X.K H p ys/\Q (.ref p) H))) gK:=by
 intro W env σ H vs ds d Q ok r e k;unfold gK at e;split at e
 ·cases e
  obtain⟨v,rfl,I⟩:=nu r;obtain⟨a,us,rfl,h,r⟩:=I.lst_;refine⟨a,us,rfl,.inl ⟨h.sq,λl S=>?_⟩⟩;have D:aU H (aR H l (.tup us)):=we S;exact k _ _ (Step.same D) (ok.same D) (.tup j9 (ok.reps (Step.same D) r))
 ·cases e
variable{b:Expr}{F:FA}
def Bu(I:d_ X G H0 [e] F)(D:Bn X "tuple":=by walk_at "b")(S:‹starEach [e] X.env=(false,eval e X.env)::starEach [] X.env›):aN X G H0 (.Call (.Name "tuple" p') [e] [] pos) (f8 gK F):=zv xO Bt D.g D.m Bs I (by decide) (by decide) S rfl
abbrev Cx.hush(X:Cx)(A:Around)(p:e9):Cx:={ X with A:=A,calm:=false,pn:=p++X.pn }
variable{p:e9}
def Inv.hush(I:Inv X pins σ H s)(hA:A.frames=X.A.frames)(D:∀q∈p,s.heap.get? q.1=↑q.2/\H q.1=none/\q.1≠X.env.locals/\q.1∉X.fs/\∀v,q.2.data≠.cell v):Inv (X.hush A p) pins σ H s :=
 ⟨⟨I.ok.mod,I.ok.kind,I.ok.glob,I.ok.blt,I.ok.above,I.ok.inj,I.ok.has,I.ok.cab,(λz=>nomatch z),hA.trans I.ok.frames,I.ok.stk,I.ok.exf,I.ok.bs,I.ok.bsz,I.ok.noex,I.ok.exfs,I.ok.funs,I.ok.frf⟩,I.os,I.bare,I.base,I.loc,I.cell,I.free,I.freeC,λq hq=>by
  rw[c8] at hq;rcases dh.mp hq with hq |hq
  ·exact D q hq
  ·exact I.pin q hq,I.hok,I.len⟩
def Inv.unhush(ok:X.Ok)(J:Inv (X.hush A p) pins σ H s):Inv X pins σ H s :=
 ⟨ok,J.os,J.bare,J.base,J.loc,J.cell,J.free,J.freeC,λq D=>J.pin q (by rw[c8];exact bu _ D),J.hok,J.len⟩
structure sM (P:Program) (w:World) (K:e5) (mg:Str->eb) (base:Heap) (k:Nat) (f:Addr) (fd:FuncData) (ps:d3) (kd:Str->fk):Prop where
 len:ps.length=1
 run:∀(A:Around) (outer:ep) (s:Shared) (H:Hp) (ea C:Addr) (c:Str) (o:Obj) (d:D) (O:Addr->Prop) (Q:VK) (args:Args),aP k { A with handled:=none }->A.handled=↑(.ref ea)->eO P w K mg base A outer s H->BindsTo s fd args (ps.zip [.ref ea]) ->
  s.heap.get? ea=↑o->iY o C->Cl K c C->H ea=none->ea∉c_ outer->kd c=↑d->(∀v H',aU H H'->aQ K H' (λa=>O a\/H a=none) d v->Q v H')->codeAny (model P w) A (.call (.ref f) args) (CR bO outer P w H s Q E0) s
abbrev h_(P:Program)(w:World)(K:e5)(mg:Str->eb)(base:Heap)(N:d3)(qual:Str)(scope:Scope)(f:Addr)(cdv:Value)(A:Around)(outer:ep)(s:Shared)(H:Hp):Cx :=
 ((aX bO P w K mg base N qual scope f cdv { A with handled:=none } outer s H E0).nox).hush (A.deeper (envOfC qual scope s.heap.objs.size f cdv)) []
def iZ(n:Nat)(g:Addr->Str->FS)(c:Str)(d:D):Prop:=∀ea,∃e',g ea c (jz n [.exc ea])=↑(.rt d,e')
variable{g:Addr->Str->FS}{qual:Str}{st:Stmt}{f:Addr}{fd:FuncData}{N ps:d3}{k n:Nat}{kd:Str->fk}{mg:Str->eb}{base:Heap}
theorem nt(F:fA K x qual st f fd)(S:mq N ps (d4 st))(T:n=N.length)(M:ps.length=1)(m:∀c d,kd c=↑d->iZ n g c d)(Y:∀(cdv:Value) (A:Around) (outer:ep) (s:Shared) (H:Hp) (ea C:Addr) (c:Str) (G:Gd) (H0:Hp),(kd c).isSome=true->Cl K c C->Hd ea C (h_ P w K mg base N qual (d4 st) f cdv A outer s H)->dU (h_ P w K mg base N qual (d4 st) f cdv A outer s H) G H0 (jg st) (g ea c)) :
  sM P w K mg base (k+1) f fd ps kd:=by
 subst T;refine⟨M,λA outer s H ea C c o d O Q args X Z D hb ho hx hc hH p hd hQ=>?_⟩;obtain⟨oc,od,kV,aa,pm,an,cdv,ct,osl,rfl,lk,r⟩:=F.ex;have hl:[V.ref ea].length=ps.length:=M.symm;have R:K.In s.heap:=D.mod.kin.keeps λb o e=>(D.bs b o e).1;have t:s.heap.NoLimit:=D.mod.nolimit.keeps λb o e=>(D.bs b o e).1;have i:∀y∈ps.zip [Value.ref ea],(d4 st).names.lookup y.1=some .local\/((d4 st).names.lookup y.1=some .cell/\((cellsFrom (s.heap.objs.size+1) (d4 st).names []).lookup y.1).isSome=true):=λ⟨n,v⟩ hy=>by
  rcases S.par n (f9 hy).1 with q |q
  ·exact .inl q
  ·exact .inr ⟨q,jh _ _ _ (.inl q)⟩
 refine codeAny_call_function (A:=A) X.depth (R _ _ lk) rfl S.co S.gen rfl (PySem.W.codeRec_of R r) (hb _ _ _ _ ?_);refine wpAny_newFunctionEnv_cells S.kind i λenv he z x=>?_;subst he;refine⟨t.keeps x.toInCall.keep,codeAny_func ?_⟩;have e1:eO P w K mg base { A with handled:=none } outer s H:=⟨D.frames,D.mod,D.bs,D.bsz,D.funs,D.frf,D.hok,D.bare⟩;have I0:Inv (aX bO P w K mg base N qual (d4 st) f cdv { A with handled:=none } outer s H E0) [] (i4 N [.ref ea]) H z:=pT S rfl e1 hl (.cons rfl .nil) x;have I:Inv (h_ P w K mg base N qual (d4 st) f cdv A outer s H) [] (i4 N [.ref ea]) H z:=(I0.wish _).hush rfl λq hq=>absurd hq ⋯;have hD:Hd ea C (h_ P w K mg base N qual (d4 st) f cdv A outer s H):=⟨Z,⟨o,ho,hx⟩,hH,p,by simp[aX]⟩;obtain⟨e',hg⟩:=m c d hd ea;have B:=(Y cdv A outer s H ea C c (gd λa=>O a\/H a=none) H (by rw[hd];rfl) hc hD).out [] z (i4 N [.ref ea]) H { nx:=λ_ H'=>Q .non H',rt:=Q } I
  ⟨cA,_,_,e',rh (K:=K) (O:=O) (.cons (.exc ea) .nil),hg,λW' U v H' st E rp=>hQ v H' E.stay (rp.mono (λ_ _ h=>h) λa us o h=>⟨o.1,h⟩)⟩
 refine fz B (λfl s' j=>?_) λe s' j=>False.elim j;have l:∀ {U:St} {H':Hp} {v:V} {u:Value},Inv (h_ P w K mg base N qual (d4 st) f cdv A outer s H) [] U H' s'->RelV v u->Q v H'->CE outer P w H s Q u s' :=
  λ{U H' v u} J L q=>⟨v,H',J.os,J.bare,J.base,J.hok,L,q⟩
 cases fl with
 |ret u =>
   obtain⟨v,U,H',J,L,q⟩:=j;exact l J L q
 |next =>
   obtain⟨U,H',J,q⟩:=j;exact l (v:=V.non) (u:=Value.none) J rfl q
 |brk =>
   obtain⟨_,_,_,q⟩:=j;exact False.elim q
 |cont =>
   obtain⟨_,_,_,q⟩:=j;exact False.elim q
def k_(P:Program)(w:World)(K:e5)(mg:Str->eb)(base:Heap)(x:Str)(k:Nat)(kd:Str->fk):Prop :=
 ∃f fd ps,sM P w K mg base k f fd ps kd/\mg x=↑(.ref f)/\PySem.W.keepIn K (.ref f)=true/\Binds K fd ps []/\(x==("__debug__" : Str))=false
def nw(ea:Addr)(c:Str)(kd:Str->fk)(i:Nat):FE:=λe=>match e[i]? with |some ⇑(.exc a)=>if a=ea then(kd c).map λd=>(d,e) else none |_=>none
variable{y:XF}{c:Str}
theorem Bv{y:Str}{p:Pos}(n:X.A.handled=↑(.ref ea))(t:(ea,o)∈X.pn)(B:iY o C)(E:Cl X.K c C)(J:k_ X.prog X.w X.K X.mg X.base x k kd)(L:aP k { X.A with handled:=none })(an:bI Nn Cn X)(M:Gl X x)(U:Nn[i]?=↑y)(j:starEach [.Name y p1] X.env=(false,eval (.Name y p1) X.env)::starEach [] X.env)(Y:(backTo pos (starEach [] X.env)).any (·.1)=false):aN X G H0 (.Call (.Name x p) [.Name y p1] [] pos) (nw ea c kd i):=⟨λpins s σ H Q I b=>by
 obtain⟨W,env,d,env',ok,q,k⟩:=b;obtain⟨f,fd,ps,F,N,O,P,g⟩:=J;unfold nw at q;split at q;case h_2=>cases q
 rename_i a R;split at q;case isFalse=>cases q
 rename_i T;subst T;cases e2:kd c with
 |none=>rw[e2] at q;cases q
 |some d' =>
   rw[e2] at q;cases q;obtain⟨v',Z,r0⟩:=ok.slot i _ R;obtain rfl:=aQ.exc_ r0;refine fm (qe I M N ?_ g);refine gc (h₀:=X.base) I.ok.mod.kin O (aW ((j6 (an.a U).pe lx j) pos pins s σ H (λvs H1=>vs=[V.ref a]/\H1=H) I ⟨_,Z,rfl,rfl⟩) λus l b=>?_) j Y;obtain⟨vs,H1,D,r,q1,q2⟩:=b;refine⟨D.kIn,?_⟩;subst q1 q2;obtain⟨u,rfl,hu⟩:=qo r;cases (show u=Value.ref a from hu);obtain⟨g1,g2,g3,g4,_⟩:=D.pin (a,o) (ek _ t);have hl:([Value.ref a]++[]).length=ps.length:=by rw[F.len];rfl
   have hz:=P l [Value.ref a] D.kIn hl;refine ke (i5 (F.run X.A X.stack l H1 a C c o _ (Ow G W) Q ⟨[.ref a],[]⟩ L n D.env0 hz g1 B E g2 (λz=>?_) e2 λv H2 m r2=>?_) λr s' S=>?_)
   ·rcases bz.mp (D.stkSub a z) with z |z
    ·exact g3 z
    ·exact g4 z
   ·refine k W v H2 (Step.same m) (ok.same m) (r2.mono (λ_ _ h=>h) λa us o h=>⟨?_,h⟩)
    rcases o with o |o
    ·exact o
    ·exact⟨ok.good a (ok.stay.free o),λz=>by obtain⟨_,us,q⟩:=ok.wl a z;rw[o] at q;cases q⟩
   ·cases r with
    |error e=>exact False.elim S |ok fl =>
      cases fl with
      |ret u=>exact D.after S |next=>exact False.elim S |brk=>exact False.elim S |cont=>exact False.elim S⟩
variable{M:Model}
def Bw(I:Inv X pins σ H s)(u:X.N.Nodup)(hi:X.N[i]?=↑x)(w:X.env.kindOf x=some .local)(h:∀s',Inv X pins (σ.set i none) H s'->Q () s'):wpAny M A (do bindName X.env x .none;unbindBehindTheSuite X.env x pos) Q E s:=by
 obtain⟨m,B,C⟩:=id I.loc;have U:(X.env.scope.kind==.class || (X.env.scope.kind==.module && X.env.locals != X.env.globals))=false:=by rw[I.ok.kind];rfl
 have V:i<σ.length:=by rw[I.len];exact(ah.mp hi).1
 refine wpAny_nameGoes_keeps w B U λh' v f D=>?_;refine h _ ⟨I.ok,I.os,I.bare,⟨λb o e n g Y=>?_,λb o e n g Y=>?_,I.base.free,λb o e Y=>?_,I.base.tups,I.base.frzs,I.base.tbls⟩,⟨_,f,λj y F S a G=>?_⟩,λy c e=>?_,I.free,I.freeC,λp J=>?_,λb K e=>?_,by simpa using I.len⟩
 ·exact(D.2 b (bo (az (bc e) I.ok.above))).trans (I.base.keep b o e n g Y)
 ·obtain⟨sl,S⟩:=I.base.slot b o e n g Y
  exact⟨sl,(D.2 b (bo (az (bc e) I.ok.above))).trans S⟩
 ·obtain⟨o',S⟩:=I.base.there b o e Y
  exact⟨o',(D.2 b (bo (az (bc e) I.ok.above))).trans S⟩
 ·by_cases l:j=i
  ·subst l
   rw[cu V] at a;cases a
  ·rw[b8 (Ne.symm l)] at a
   obtain⟨L,O,q⟩:=C j y F S a G;refine⟨L,O,?_⟩;rcases q with⟨k,e⟩ | ⟨k,c,e,z⟩
   ·refine .inl ⟨k,?_⟩
    have:y≠x:=λe=>l (ll u S (e ▸ hi));simp[this,e]
   ·exact .inr ⟨k,c,e,z.sameBut D (I.cne y c e)⟩
 ·obtain⟨r,z⟩:=I.cell y c e
  exact⟨r,z.sameBut D (I.cne y c e)⟩
 ·obtain⟨e,n,t,P,d⟩:=I.pin p J
  exact⟨(D.2 p.1 t).trans e,n,t,P,d⟩
 ·refine(I.hok b K e).stay (λc r hc q=>(D.2 c ?_).trans q) (λ_ q=>q) λ_ _ q=>q
  rintro rfl;rcases hc with hc |hc
  ·rw[<-hc,I.free] at e;cases e
  ·rw[I.free] at hc;cases hc
def bC.here{a:Addr}{o:HO}(x:bC P w H h a o):∃u,h.get? a=↑u:=by
 induction o with
 |lst xs=>obtain⟨_,_,_,_,e⟩:=x;exact⟨_,e⟩ |tup xs=>obtain⟨_,_,_,o,e,_⟩:=x;exact⟨_,e⟩ |dK kvs=>obtain⟨_,_,_,_,o,_,_,e,_⟩:=x;exact⟨_,e⟩ |dT kvs=>obtain⟨_,_,_,_,o,_,_,e,_⟩:=x;exact⟨_,e⟩ |set S n=>obtain⟨o,_,_,_,e,_⟩:=x;exact⟨_,e⟩ |ins C dx fs=>exact⟨_,x.2.2.2.1⟩ |own _=>exact x |xd fs=>obtain⟨_,⟨_,_,_,e,_⟩,_⟩:=x;exact⟨_,e⟩ |met f y=>exact⟨_,x⟩ |rng lo hi=>obtain⟨_,_,_,e⟩:=x;exact⟨_,e⟩ |frz o u _=>exact⟨_,x.1⟩ |tbl ps=>exact⟨_,x⟩ |ext φ=>exact x.2.1
variable{W:Addr->Prop}{env:DE0}
def Ok.unset(ok:Ok K G H0 W env σ H)(i:Nat):Ok K G H0 W (env.set i none) (σ.set i none) H:=by
 have gt:∀ {α:Type} {l:List (Option α)} {j:Nat} {a:α},(l.set i none)[j]?=↑↑a->i≠j/\l[j]?=↑↑a:=λ{α l j a} e=>by
  by_cases h:i=j
  ·subst h
   rw[iy] at e;simp at e
  ·rw[b8 h] at e
   exact⟨h,e⟩
 refine⟨ok.stay,ok.good,ok.wl,λj s e=>?_,λj I s s' v S a D U V Y=>ok.uniq j I s s' v S a (gt D).2 (gt U).2 (gt V).2 (gt Y).2,by rw[de,de];exact ok.len⟩;obtain⟨h,e⟩:=gt e;obtain⟨v,D,h1⟩:=ok.slot j s e;exact⟨v,by rw[b8 h];exact D,h1⟩
abbrev Cx.tr(X:Cx)(E:Value->Shared->Prop)(pp:e9):Cx:={ X with xe:=E,pn:=pp++X.pn }
def Inv.tr(I:Inv X pins σ H s):Inv (X.tr E pins) [] σ H s :=
 ⟨⟨I.ok.mod,I.ok.kind,I.ok.glob,I.ok.blt,I.ok.above,I.ok.inj,I.ok.has,I.ok.cab,I.ok.hd,I.ok.frames,I.ok.stk,I.ok.exf,I.ok.bs,I.ok.bsz,I.ok.noex,I.ok.exfs,I.ok.funs,I.ok.frf⟩,I.os,I.bare,I.base,I.loc,I.cell,I.free,I.freeC,λq D=>I.pin q (by
  rw[cr] at D;exact dh.mpr (dh.mp D).symm),I.hok,I.len⟩
variable{pp:e9}
def Inv.untr(ok:X.Ok)(I:Inv (X.tr E pins) pp σ H s):Inv X pins σ H s :=
 ⟨ok,I.os,I.bare,I.base,I.loc,I.cell,I.free,I.freeC,λq D=>I.pin q (ek _ (dh.mpr (dh.mp D).symm)),I.hok,I.len⟩
variable{cs:d3}
def bI.tr(h:bI N cs X):bI N cs (X.tr E pp):=⟨h.n,λi x e=>let z:=h.get i x e;⟨z.n,z.v,z.d,z.c⟩,h.ck⟩
def cS.tr(h:cS N X):cS N (X.tr E pp):=⟨λi x e=>let z:=h.to i x e;⟨z.nd,z.n,z.l,z.f⟩⟩
def bI.hush(h:bI N cs X):bI N cs (X.hush A pp):=⟨h.n,λi x e=>let z:=h.get i x e;⟨z.n,z.v,z.d,z.c⟩,h.ck⟩
def cS.hush(h:cS N X):cS N (X.hush A pp):=⟨λi x e=>let z:=h.to i x e;⟨z.nd,z.n,z.l,z.f⟩⟩
def gL(u:FS)(i j:Nat)(kd:Str->fk):FS:=λe=>(u e).bind λr=>match r.1 with | .xc c=>(kd c).map λd=>(.nx,((r.2.set i none).set j ⇑d).set i none) |_=>↑r
def n0{α:Type}(l:List (Option α))(i j:Nat)(a b:Option α):((l.set i a).set j b).set i none=((l.set i none).set j b).set i none:=by
 by_cases h:i=j
 ·subst h;simp[List.set_set]
 ·rw[List.set_comm _ _ h,List.set_set,List.set_comm _ _ h,List.set_set]
variable{H':Hp}{s':Shared}
def fZ.obj{e:Addr}(U:X.stack=X.env::X.outer)(V:X.env.frame=↑X.env.locals)(f:fZ X.prog X.w X.stack H s C e H' s'):∃o,s'.heap.get? e=↑o/\iY o C/\H' e=none/\e≠X.env.locals/\e∉X.fs/\∀v,o.data≠.cell v:=by
 obtain⟨B,x,d,Y,un,os,g⟩:=f;obtain⟨a,vs,T,h,ts,S,b,gd,I,i,c,_⟩:=x.tr;have D:e∉c_ X.stack:=λz=>by
  obtain⟨_,j,y,n⟩:=x.fr.mem z;rw[S] at y;cases y;exact n vs I
 rw[U] at D;have D:e∉X.env.locals::X.fs:=by unfold c_ at D;rw[h9,V] at D;exact D
 refine⟨a,S,⟨⟨vs,b,I,c⟩,gd⟩,?_,λz=>D (z ▸ ay),λz=>D (ai _ z),λv z=>by rw[I] at z;cases z⟩;cases q:H' e with
 |none=>rfl |some o =>
   obtain⟨u,z⟩:=(Y e o q).here;rw[x.new] at z;cases z
def fZ.flight{e:Addr}(I:Inv X pins σ H s)(f:fZ X.prog X.w X.stack H s C e H' s')(h:∀h2,fZ X.prog X.w X.stack H s C e H' { s' with heap:=h2 }->Q () { s' with heap:=h2 }):wpAny M A (setFlight (.ref e) none) Q E s':=by
 obtain⟨B,x,V,a,un,os,c⟩:=f;refine zp x λh2 Y d g=>h h2 ⟨B,Y,V,a,⟨λb o q n D _=>Y.stay b o (V b o q n D),λb o q n D S=>?_,un.free,λb o q S=>?_,un.tups,un.frzs,un.tbls⟩,os,c⟩
 ·obtain⟨sl,z⟩:=un.slot b o q n D S
  obtain⟨_,k,y,i⟩:=I.stack.mem D;rw[q] at y;cases y;obtain⟨U,j⟩:=d b _ z i;exact⟨U,j⟩
 ·obtain⟨o',z⟩:=un.there b o q S
  exact g b o' z
variable{jr:Nat}{z:Str}
def Bx{body:List Stmt}{u:FS}{j:Nat}{R y:Str}{RA:Addr}{T h O Z p7:Pos}(hR:X.mg R=↑(.ref RA))(m:∀c C,(kd c).isSome=true->Cl X.K c C->PySem.W.exmOne X.K (.ref C) (.ref RA)=↑true)(kc:k_ X.prog X.w X.K X.mg X.base x k kd)(rm:aP jr X.A)(an:bI Nn Cn X)(S:cS Nn X)(hb:∀E pp,bI Nn Cn (X.tr E pp)->cS Nn (X.tr E pp)->dU (X.tr E pp) G H0 body u)(B:k<=jr:=by decide)(aa:Gl X R:=by walk_at "g")(ab:Gl X x:=by walk_at "g")(hi:‹Nn[i]?=↑y›)(hj:‹Nn[j]?=↑z›)(hl:X.env.kindOf y=some .local:=by kernel_rfl)(hX:‹X.stack=X.env::X.outer›)(hf:‹X.env.frame=↑X.env.locals›)(ac:(R==("__debug__" : Str))=false:=by decide)(he:‹starEach [.Name y h] X.env=(false,eval (.Name y h) X.env)::starEach [] X.env›)(ag:‹(backTo O (starEach [] X.env)).any (·.1)=false›)(al:‹swapsWith (.Call (.Name x T) [.Name y h] [] O) ↑(.Name z p2) Z.line X.env=pure false›) :
  dS X G H0 (.Try body [.ExceptHandler ↑(.Name R p1) ↑y [.Assign [.Name z p2] (.Call (.Name x T) [.Name y h] [] O) Z] p7] [] [] pos) (gL u i j kd):=⟨λpins s σ H Dn I zq=>by
 obtain⟨W,env,fl,env',ok,q,k⟩:=zq;unfold gL at q;cases e1:u env with
 |none=>rw[e1] at q;cases q
 |some r =>
   obtain⟨F,env1⟩:=r;rw[e1,ae] at q;refine wpAny_Try_except ?_;refine fz ((hb _ pins an.tr S.tr).out [] s σ H Dn I.tr ⟨W,env,F,env1,ok,e1,?_⟩) (λf s1 h1=>?_) (λe s1 h1=>h1)
   ·cases F with
    |xc c=>?_ |nx=>cases q;exact k
    |bk=>cases q;exact k
    |ct=>cases q;exact k
    |rt d=>cases q;exact k
    |rf d=>cases q;exact k
    |r2 d=>cases q;exact k
    |ra d d'=>cases q;exact k
    cases e2:kd c with
    |none=>simp only[e2,jn] at q;cases q
    |some d =>
      simp only[e2,bi] at q;cases q;intro W' D H' C hc st L ap e s' xs;refine xs.come hX hf λh2 s1 H1 I1 f=>?_;have J:Inv X pins D H' { s' with heap:=h2 }:=(f.inv I1).untr I.ok;obtain⟨o,P,g2,_⟩:=fZ.obj (X:=X) hX hf f;refine wpAny_handleBy_cons (codeAny_handlers_test ?_) (λz=>nomatch z);refine qe (J.hush (A:=X.A.mark ↑(.ref e)) (p:=[]) rfl ⋯) aa hR ?_ ac;refine(exm_one (M:=model X.prog X.w) J.kIn (g2.inst P).type (m c C (by rw[e2];rfl) hc)).here ?_;refine codeAny_handlers_suite_as ?_;refine f.flight I1 λh3 f3=>?_;have J3:Inv X pins D H' { s' with heap:=h3 }:=(f3.inv I1).untr I.ok;obtain⟨N,P,g2,g3,g4,g5,g6⟩:=fZ.obj (X:=X) hX hf f3;have ar:i<env1.length:=by
       rw[L.len,J3.len];exact(ah.mp (S.t hi).n).1
      refine lu (X:=X.hush (X.A.mark ↑(.ref e)) []) (J3.hush rfl ⋯) (S.t hi).nd (S.t hi).n (S.t hi).l (v:=.ref e) rfl (λs4 I4 zq=>?_) (S.t hi).f;obtain⟨a,sb,ha⟩:=zq;have ge:s4.heap.get? e=↑N:=(sb.2 e λz=>by
       rcases ha with ha |ha
       ·exact g4 (z.trans ha)
       ·obtain⟨v,oc,h1,h2⟩:=J3.cell _ _ ha
        rw[<-z] at h1;cases P.symm.trans h1;exact g6 v h2).trans P
      have I5:Inv ((X.hush (X.A.mark ↑(.ref e)) [(e,N)]).nox) pins (D.set i ↑(.ref e)) H' s4:=((I4.unhush I.ok).hush (A:=X.A.mark ↑(.ref e)) (p:=[(e,N)]) rfl (λq hq=>by cases b6.mp hq;exact⟨ge,g3,g4,g5,g6⟩)).wish _;have hs:=(d8 (il (X:=(X.hush (X.A.mark ↑(.ref e)) [(e,N)]).nox) (G:=G) (H0:=H0) (pos:=Z) (p':=p2) S.hush.nox (Bv (C:=C) (c:=c) (o:=N) (p:=T) (p1:=h) (pos:=O) rfl (ek _ ay) g2 hc kc ⟨rfl,(rm.mono B).dp,(rm.mono B).un⟩ an.hush.nox ab hi he ag) hj al)).out pins s4 _ H' { nx:=λU Q=>∃b,Step W' H' b Q/\Ok X.K G H0 b ((env1.set i ⇑(.exc e)).set j ⇑d) U Q,rt:=λ_ _=>False } I5 ⟨W',env1.set i ⇑(.exc e),.nx,_,L.set (.exc e),by
       unfold aJ nw;rw[cu ar];dsimp only;rw[am rfl,e2];rfl,λb U Q V Y=>⟨b,V,Y⟩⟩
      refine fz hs (λf5 s5 g=>?_) (λx s5 g=>False.elim g);cases f5 with
      |next =>
        obtain⟨U,Q,J5,b,V,Y⟩:=g;refine Bw (J5.unwish.unhush I.ok) (S.t hi).nd (S.t hi).n hl λs6 J7=>⟨_,_,J7,k b _ _ (st.trans V) ?_⟩;rw[<-n0];exact Y.unset i
      |brk=>obtain⟨_,_,_,z⟩:=g;exact z.elim |cont=>obtain⟨_,_,_,z⟩:=g;exact z.elim |ret u=>obtain⟨_,_,_,_,_,z⟩:=g;exact z.elim
   ·cases f with
    |next =>
      obtain⟨D,H',J,q⟩:=h1;exact kl ⟨D,H',J.untr I.ok,q⟩
    |brk=>obtain⟨D,H',J,q⟩:=h1;exact⟨D,H',J.untr I.ok,q⟩ |cont=>obtain⟨D,H',J,q⟩:=h1;exact⟨D,H',J.untr I.ok,q⟩ |ret u=>obtain⟨v,D,H',J,r,q⟩:=h1;exact⟨v,D,H',J.untr I.ok,r,q⟩⟩
def jw:d3:=["UnknownStack", "EmptyStack", "UnknownPlace", "BadHours", "BadLoss", "BadCount", "HouseFull", "DeedsFull", "NothingWaits", "NothingDone", "ShortOrder", "TooManyOrders", "NotGone"]
def ly:d3:=["unknown stack", "empty stack", "unknown place", "bad hours", "bad loss", "bad count", "house full", "deeds full", "nothing waits", "nothing done", "short order", "too many orders", "not gone"]
def sN(c:Str):et:=(jw.zip ly).lookup c
def gM(c:Str):fk:=(sN c).map λw=>.tup [.str "refused",.str w]
def yc(K:e5)(C:Addr):Bool:=findIn K (.ref C) "__getattribute__"==↑↑(.builtin "BaseException.__getattribute__") && findIn K (.ref C) "__getattr__"==↑none && (match findObj K C none "__class__" with |some (.bind (.builtin g) (.builtin a))=>g=="getset_descriptor.__get__" && a=="object.__class__" |_=>false) && mroIn K C (.type "object")==↑true && mroIn K C (.type "BaseException")==↑true
def gN(K:e5)(n:Str)(p:Addr->Bool):Bool:=match nsIn K mainGlobals n with |some ↑(.ref R)=>p R |_=>false
def sO(K:e5):Bool:=jw.all λc=>gN K c λC=>yc K C && kitOne K (.ref C) (.type "ValueError")==↑true && gN K "RotError" (λR=>exmOne K (.ref C) (.ref R)==↑true) && jw.all λn=>gN K n λR=>kitOne K (.ref C) (.ref R)==↑(c==n)
def vv{n:Str}{p:Addr->Bool}(h:gN K n p=true):∃R,nsIn K mainGlobals n=↑↑(.ref R)/\p R=true:=by
 unfold gN at h;split at h
 ·exact⟨_,by assumption,h⟩
 ·cases h
def By(h:yc K C=true):fI K C:=by
 unfold yc at h;simp only[df,im] at h;obtain⟨⟨⟨⟨h1,h2⟩,D⟩,I⟩,S⟩:=h;refine⟨h1,h2,?_,I,S⟩;split at D
 ·rename_i g a e
  rw[df,im,im] at D;rw[e,D.1,D.2]
 ·cases D
def sP(h:(gM c).isSome=true):c∈jw:=by
 unfold gM at h;rw[Option.isSome_map] at h;obtain⟨w,e⟩:=i7.mp h;exact(f9 (cz e)).1
structure cO (K:e5) (mg:Str->eb):Prop where
 b:sO K=true
 m:∀n∈("RotError" : Str)::jw,∀R,nsIn K mainGlobals n=↑↑(.ref R)->mg n=↑(.ref R)
def kf_mk(X:K.In h)(G:h.Ns mainGlobals mg)(b:sO K=true):cO K mg:=⟨b,λ_ _ _ e=>mg_of X G e⟩
def cO.all(k:cO K mg)(U:(gM c).isSome=true)(cl:Cl K c C):fI K C/\kitOne K (.ref C) (.type "ValueError")=↑true/\(∃R,mg "RotError" = ↑(.ref R)/\exmOne K (.ref C) (.ref R)=↑true)/\∀n∈jw,∃R,mg n=↑(.ref R)/\kitOne K (.ref C) (.ref R)=↑(c==n):=by
 have h:=ft.mp k.b c (sP U);obtain⟨a,e,h⟩:=vv h;cases e.symm.trans cl;simp only[df,im] at h;obtain⟨⟨⟨h1,h2⟩,D⟩,I⟩:=h;obtain⟨R,V,D⟩:=vv D;refine⟨By h1,h2,⟨R,k.m _ ay R V,im.mp D⟩,λn S=>?_⟩;obtain⟨R,Y,I⟩:=vv (ft.mp I n S);exact⟨R,k.m _ (ai _ S) R Y,im.mp I⟩
def cO.rot(k:cO K mg):∃R,mg "RotError" = ↑(.ref R)/\∀c C,(gM c).isSome=true->Cl K c C->exmOne K (.ref C) (.ref R)=↑true:=by
 have h:=ft.mp k.b "UnknownStack" (by decide);obtain⟨U,e,_⟩:=vv h;obtain⟨_,_,⟨R,D,_⟩,_⟩:=k.all (c:="UnknownStack") (by decide) e;refine⟨R,D,λc C I cl=>?_⟩;obtain⟨_,_,⟨V,S,z⟩,_⟩:=k.all I cl;cases D.symm.trans S;exact z
def lv(V:cO X.K X.mg)(Y:(gM c).isSome=true)(cl:Cl X.K c C)(hd:Hd ea C X)(an:bI Nn Cn X)(a:cn∈jw:=by decide)(b:Gl X cn:=by walk_at "g")(D:(cn==("__debug__" : Str))=false:=by decide)(d:Bn X "isinstance":=by walk_at "b")(I:‹Nn[i]?=↑x›)(e:‹starEach [.Name x p1,.Name cn p2] X.env=(false,eval (.Name x p1) X.env)::starEach [.Name cn p2] X.env›)(S:‹starEach [.Name cn p2] X.env=(false,eval (.Name cn p2) X.env)::starEach [] X.env›)(U:‹(backTo pos (starEach [.Name cn p2] X.env)).any (·.1)=false›) :
  aN X G H0 (.Call (.Name "isinstance" p') [.Name x p1,.Name cn p2] [] pos) (bP ea i (c==cn)):=by
 obtain⟨f,_,_,h⟩:=V.all Y cl;obtain⟨R,g,j⟩:=h cn a;exact Bp hd f g j an b D d I e S U
def Bz(U:cO X.K X.mg)(V:(gM c).isSome=true)(cl:Cl X.K c C)(hd:Hd ea C X)(an:bI Nn Cn X)(Y:Bn X "ValueError":=by walk_at "b")(a:Bn X "isinstance":=by walk_at "b")(D:‹Nn[i]?=↑x›)(b:‹starEach [.Name x p1,.Name "ValueError" p2] X.env=(false,eval (.Name x p1) X.env)::starEach [.Name "ValueError" p2] X.env›)(I:‹starEach [.Name "ValueError" p2] X.env=(false,eval (.Name "ValueError" p2) X.env)::starEach [] X.env›)(S:‹(backTo pos (starEach [.Name "ValueError" p2] X.env)).any (·.1)=false›) :
  aN X G H0 (.Call (.Name "isinstance" p') [.Name x p1,.Name "ValueError" p2] [] pos) (bP ea i true):=Br hd (U.all V cl).1 (U.all V cl).2.1 an Y a D b I S
theorem B0(T:cF K mg st x ps)(N:d3)(D:∀c d,kd c=↑d->iZ N.length g c d)(I:∀ {f:Addr} {cdv:Value} {A:Around} {outer:ep} {s:Shared} {H:Hp} {ea C:Addr} {c:Str} {G:Gd} {H0:Hp},(kd c).isSome=true->Cl K c C->Hd ea C (h_ P w K mg base N x (d4 st) f cdv A outer s H)->bI N (fH N (d4 st)) (h_ P w K mg base N x (d4 st) f cdv A outer s H)->cS N (h_ P w K mg base N x (d4 st) f cdv A outer s H) ->
   dU (h_ P w K mg base N x (d4 st) f cdv A outer s H) G H0 (jg st) (g ea c))(h:fT N ps (d4 st)=true:=by decide +kernel)(S:fV x=true:=by decide +kernel)(U:‹ps.length=1›):k_ P w K mg base x (k+1) kd:=by
 obtain⟨f,fd,F,b,m⟩:=T;exact⟨f,fd,ps,nt F (lz h).1 rfl U D λcdv A outer s H ea C c G H0 V Y a=>I V Y a (n8 h).nox.hush (n6 h).nox.hush,m,F.kp,b,(oh S).1⟩
def yb(ea:Addr)(c:Str):FS:=aE (aJ 1 (aH (fy (bx (bP ea 0 (c=="UnknownStack")) (bx (bP ea 0 (c=="EmptyStack")) aC))))) (aE (aJ 1 (aH (bJ (aB 1) (aH (fy (bx (bP ea 0 (c=="UnknownPlace")) (bx (bP ea 0 (c=="BadHours")) aC))))))) (aE (aJ 1 (aH (bJ (aB 1) (aH (fy (bx (bP ea 0 (c=="BadLoss")) (bx (bP ea 0 (c=="BadCount")) aC))))))) (aE (aJ 1 (aH (bJ (aB 1) (aH (fy (bx (bP ea 0 (c=="HouseFull")) (bx (bP ea 0 (c=="DeedsFull")) aC))))))) (aE (aJ 1 (aH (bJ (aB 1) (aH (fy (bx (bP ea 0 (c=="NothingWaits")) (bx (bP ea 0 (c=="NothingDone")) aC))))))) (aE (aJ 1 (aH (bJ (aB 1) (aH (fy (bx (bP ea 0 (c=="ShortOrder")) (bx (bP ea 0 (c=="TooManyOrders")) aC))))))) (aE (aJ 1 (aH (bJ (aB 1) (aH (fy (bx (bP ea 0 (c=="NotGone")) aC)))))) (aE (aJ 2 (aH (fy (bx (fC (.str "unknown stack")) (bx (fC (.str "empty stack")) (bx (fC (.str "unknown place")) (bx (fC (.str "bad hours")) (bx (fC (.str "bad loss")) (bx (fC (.str "bad count")) aC))))))))) (aE (aJ 2 (aH (bJ (aB 2) (aH (fy (bx (fC (.str "house full")) (bx (fC (.str "deeds full")) (bx (fC (.str "nothing waits")) (bx (fC (.str "nothing done")) (bx (fC (.str "short order")) aC)))))))))) (aE (aJ 2 (aH (bJ (aB 2) (aH (fy (bx (fC (.str "too many orders")) (bx (fC (.str "not gone")) aC))))))) (aE (aJ 3 (aH (ii (gm eV (bx (fC ↥13) aC)) [2,1,0] (eT (aI (aK 2 (aB 0))) (aI (bP ea 3 true))) (aK 1 (aB 0))))) (aM (f8 gK (bx (aH (bJ (aH (fy (bx (fC (.str "refused")) aC))) (aB 3))) aC)))))))))))))
def iJ(K:e5)(m:f4->fh->fk)(x:f4->fh->et):Sp:=λvs H Q E =>
 ∃(O:Addr->Prop) (ags:f4) (us:fe) (ds:fh) (ws:fe),vs=ws++us/\pv K O H ags us/\aF K H O ds ws /\
  ((∃d,m ags ds=↑d/\∀v H',aU H H'->aQ K H' (λa=>O a\/H a=none) d v->Q v H')\/∃c,x ags ds=↑c/\∀C H',Cl K c C->aU H H'->E (.ref C) none H')
def om(n:Nat)(ags:f4)(ds:fh):DE0:=ds.map (λd=>↑(Sl.sh d))++(ags.map (λx=>↑(Sl.ro x.1 x.2))++List.replicate (n-(ds.length+ags.length)) none)
def eX(n p ar:Nat)(g:FS):f4->fh->fk:=λags ds=>if ags.length=p/\ds.length=ar then(match g (om n ags ds) with |some (.rt d,_)=>↑d |some (.nx,_)=>some .non |_=>none) else none
def xR(n p ar:Nat)(g:FS):f4->fh->et:=λags ds=>if ags.length=p/\ds.length=ar then(match g (om n ags ds) with |some (.xc c,_)=>↑c |_=>none) else none
theorem B1{O:Addr->Prop}{ags:f4}{us ws:fe}{ds:fh}(U:pv K O H ags us)(r:aF K H O ds ws) :
  Ok K (gd λa=>O a\/H a=none) H cA (om N.length ags ds) (i4 N (ws++us)) H:=by
 have es:i4 N (ws++us)=ws.map some++(us.map some++List.replicate (N.length-(ws.length+us.length)) none):=by
  unfold i4;rw[db,c8,bd]
 have I:∀(i:Nat) (s:Sl),(om N.length ags ds)[i]?=↑↑s->∃v,(i4 N (ws++us))[i]?=↑↑v/\cJ K (gd λa=>O a\/H a=none) cA H s v/\∀a,¬aV H s v a:=λi s e=>by
  rw[es];unfold om at e;by_cases hi:i<ds.length
  ·rw[ao (by simpa using hi),bh] at e
   obtain⟨d,S,e⟩:=cg.mp e;cases e;obtain⟨v,f,g⟩:=r.get S;exact⟨v,by rw[ao (by rw[af,<-r.length];exact hi),bh,f];rfl,g.mono (λ_ _ h=>h) λa us o h=>⟨⟨.inl o,λz=>z⟩,h⟩,λa o=>o.elim⟩
  ·rw[bj (by simpa using hi),af] at e
   rw[bj (by rw[af,<-r.length];lia),af,<-r.length];by_cases Y:i-ds.length<ags.length
   ·rw[ao (by simpa using Y),bh] at e
    obtain⟨x,S,e⟩:=cg.mp e;cases e;have c:us[i-ds.length]?=↑(us[i-ds.length]'(by rw[U.1];exact Y)):=au _;obtain⟨p,vs,h1,h2,b⟩:=U.2 _ x _ S c;exact⟨_,by rw[ao (by rw[af,U.1];exact Y),bh,c];rfl,⟨p,vs,h1,λz=>z,h2,b.step (λa vs n z=>⟨n,z⟩) (λd v q=>(kj λa z=>⟨.inl z.1,λz=>z⟩).1 d v q) λd v q=>(kj λa z=>⟨.inl z.1,λz=>z⟩).2 d v q⟩,λa o=>o.elim⟩
   ·rw[bj (by simpa using Y)] at e
    cases (List.mem_replicate.mp (br e)).2
 refine⟨aU.refl _,λa z=>.inr z,λl z=>z.elim,λi s e=>?_,λi j k s2 t u a S _ m _ o _=>?_,?_⟩
 ·obtain⟨v,h1,h2,_⟩:=I i s e
  exact⟨v,h1,h2⟩
 ·obtain⟨v,h1,_,b⟩:=I i k S
  rw[m] at h1;cases h1;exact absurd o (b a)
 ·rw[es]
  unfold om;simp[U.1,r.length]
variable{g:FS}
theorem B2{p ar:Nat}(F:fA K x qual st f fd)(S:mq N ps (d4 st))(m:n=N.length)(q:p+ar=ps.length)(U:∀(cdv:Value) (A:Around) (outer:ep) (s:Shared) (H:Hp) (E:XK) (G:Gd) (H0:Hp),aP k (A.deeper (envOfC qual (d4 st) s.heap.objs.size f cdv)) ->
   dU (aX (cP P w) P w K mg base N qual (d4 st) f cdv A outer s H E) G H0 (jg st) g):bD P w K mg base (cP P w) (k+1) f fd ps (iJ K (eX n p ar g) (xR n p ar g)):=by
 subst m;have Y:∀ {O:Addr->Prop} {H:Hp} {ags:f4} {us:fe} {ds:fh} {ws:fe},pv K O H ags us->aF K H O ds ws->(ags.length=p/\ds.length=ar)->(ws++us).length=ps.length:=λb r h=>by rw[bd,b.1,h.1,<-r.length,h.2,Nat.add_comm,q]
 refine F.okX S (λvs H Q E h=>?_) (λcdv A outer s H vs Q E t h=>?_)
 ·obtain⟨O,ags,us,ds,ws,rfl,b,r,h⟩:=h
  refine Y b r ?_;rcases h with⟨d,e,_⟩ | ⟨c,e,_⟩
  ·unfold eX at e;split at e
   ·assumption
   ·cases e
  ·unfold xR at e;split at e
   ·assumption
   ·cases e
 ·obtain⟨O,ags,us,ds,ws,rfl,b,r,h⟩:=h
  refine⟨_,(U cdv A outer s H E (gd λa=>O a\/H a=none) H t).out,?_⟩;have l:=B1 (N:=N) b r;rcases h with⟨d,e,k⟩ | ⟨c,e,k⟩
  ·unfold eX at e
   split at e;case isFalse=>cases e
   split at e
   ·rename_i d' env' i
    cases e;exact⟨cA,_,_,env',l,i,λW' j v H' st I u=>k v H' I.stay (u.mono (λ_ _ h=>h) λa us o h=>⟨o.1,h⟩)⟩
   ·rename_i env' i
    cases e;exact⟨cA,_,_,env',l,i,λW' j H' st I=>k .non H' I.stay .non⟩
   ·cases e
  ·unfold xR at e
   split at e;case isFalse=>cases e
   split at e
   ·rename_i B env' i
    cases e;exact⟨cA,_,_,env',l,i,λW' j H' y z st I pins e s' xs=>mI xs (k y H' z I.stay)⟩
   ·cases e
def sQ{p ar:Nat}(T:cF K mg st x ps)(N:d3)(D:Bd P w K mg base N x st k g)(h:fT N ps (d4 st)=true:=by decide +kernel)(I:fV x=true:=by decide +kernel)(S:‹n=N.length›)(U:‹p+ar=ps.length›):bV P w K mg base (cP P w) x (k+1) (iJ K (eX n p ar g) (xR n p ar g)) :=
 T.cal I λf fd F=>B2 F (lz h).1 S U λcdv A outer s H E G H0 V=>D V (n8 h) (n6 h)
def n2(X:Cx)(G:Gd)(H0:Hp)(is:ee)(F:FA):TA:=λσ H Q=>∃W env ds env',Ok X.K G H0 W env σ H/\F env=↑(ds,env')/\cR env' is /\
 ∀W' us ws H',Step W H W' H'->Ok X.K G H0 W' env' σ H'->us.length=is.length->(∀(j i:Nat),is[j]?=↑i->∃u,us[j]?=↑u/\σ[i]?=↑↑u)->aF X.K H' (Ow G W') ds ws->Q (ws++us) H'
structure i_ (X:Cx) (G:Gd) (H0:Hp) (is:ee) (es:er) (F:FA):Prop where
 out:PA X es (n2 X G H0 is F)
def o8(m:f4->fh->fk)(is:ee)(F:FA):FE:=λe=>(F e).bind λr=>(bT r.2 is).bind λags=>(m ags r.1).map λd=>(d,r.2)
def p8(x:f4->fh->et)(is:ee)(F:FA):XF:=λe=>(F e).bind λr=>(bT r.2 is).bind λags=>(x ags r.1).map λc=>(c,r.2)
def wj{env:DE0}:∀ {is:ee} {ags:f4},bT env is=↑ags->cR env is
 | [],_,_=>λi h=>by cases h
 |i::r,ags,h=>by
   unfold bT at h;intro j hj;split at h
   ·rename_i q
    obtain⟨t,h2,_⟩:=cg.mp h;rcases bz.mp hj with rfl |hj
    ·exact⟨_,q⟩
    ·exact wj h2 j hj
   ·rename_i q
    obtain⟨t,h2,_⟩:=cg.mp h;rcases bz.mp hj with rfl |hj
    ·exact⟨_,q⟩
    ·exact wj h2 j hj
   ·cases h
def zz:i_ X G H0 [] [] aC:=⟨lx.imp λσ H Q D=>by
 obtain⟨W,env,ds,env',ok,q,_,k⟩:=D;cases q;exact k W [] [] H Step.refl ok rfl (λj i e=>by simp at e) .nil⟩
variable{es:er}{is:ee}
def yw(h:i_ X G H0 is es aC)(an:bI Nn Cn X)(D:‹Nn[i]?=↑x›)(I:‹starEach (.Name x pos::es) X.env=(false,eval (.Name x pos) X.env)::starEach es X.env›):i_ X G H0 (i::is) (.Name x pos::es) aC :=
 ⟨(j6 ((an.a D).pe) h.out I).imp λσ H Q b=>by
  obtain⟨W,env,ds,env',ok,q,V,k⟩:=b;cases q;obtain⟨s,I⟩:=V i ⋯;obtain⟨v,Y,_⟩:=ok.slot i s I;refine⟨v,Y,W,env,[],env,ok,rfl,λS hi=>V S (by simp[hi]),λW' us ws H' st U c d r=>?_⟩;cases r;refine k W' (v::us) [] H' st U (by rw[ak,ak,c]) (λj S e=>?_) .nil;cases j with
  |zero=>simp at e;subst e;exact⟨v,rfl,Y⟩ |succ j=>obtain⟨u,f,g⟩:=d j S (by simpa using e);exact⟨u,by simpa using f,g⟩⟩
variable{f:FE}
def re(V:aN X G H0 e f)(h:i_ X G H0 is es F)(Y:‹starEach (e::es) X.env=(false,eval e X.env)::starEach es X.env›):i_ X G H0 is (e::es) (bx f F) :=
 ⟨(j6 V.out h.out Y).imp λσ H Q a=>by
  obtain⟨W,env,ds,env',ok,q,I,k⟩:=a;unfold bx at q;obtain⟨⟨d,env1⟩,b,q⟩:=b0.mp q;obtain⟨⟨ds',U⟩,c,q⟩:=b0.mp q;cases q;refine⟨W,env,d,env1,ok,b,λW1 v H1 g D i=>⟨W1,env1,ds',_,D,c,I,λj us ws H2 s2 S l m n=>?_⟩⟩;exact k j us (v::ws) H2 (g.trans s2) S l m (.cons (D.rep s2 i) n)⟩
variable{m:f4->fh->fk}{xx:f4->fh->et}
def B3:∀σ H Q,tD X.K G H0 (o8 m is F) σ H Q->n2 X G H0 is F σ H λvs H1=>iJ X.K m xx vs H1 Q (f_ X σ):=λσ H Q U=>by
 obtain⟨W,env,d,env',ok,q,k⟩:=U;obtain⟨⟨ds,env1⟩,V,q⟩:=b0.mp q;obtain⟨ags,I,q⟩:=b0.mp q;obtain⟨d',Y,q⟩:=cg.mp q;cases q;exact⟨W,env,ds,_,ok,V,wj I,λW1 us ws H1 a D b c e=>⟨Ow G W1,ags,us,ds,ws,rfl,D.roAll I b c,e,.inl ⟨_,Y,λv H' S f=>k W1 v H' (a.trans (Step.same S)) (D.same S) (D.newRep f)⟩⟩⟩
def B4:∀σ H (Q:VK),gU X G H0 (p8 xx is F) σ H->n2 X G H0 is F σ H λvs H1=>iJ X.K m xx vs H1 Q (f_ X σ):=λσ H Q V=>by
 obtain⟨W,env,c,env',ok,q,k⟩:=V;obtain⟨⟨ds,env1⟩,Y,q⟩:=b0.mp q;obtain⟨ags,S,q⟩:=b0.mp q;obtain⟨i,a,q⟩:=cg.mp q;cases q;refine⟨W,env,ds,_,ok,Y,wj S,λW1 us ws H1 b D d e f=>⟨Ow G W1,ags,us,ds,ws,rfl,D.roAll S d e,f,.inr ⟨_,a,λC H' g U pins H2 s2 j ea s' h I fl=>?_⟩⟩⟩;cases h;exact k W1 H' C g (b.trans (Step.same U)) (D.same U) pins ea s' (.inl ⟨s2,H2,I,fl⟩)
def sR(c:bV X.prog X.w X.K X.mg X.base (cP X.prog X.w) x k (iJ X.K m xx))(S:aP jr X.A)(U:i_ X G H0 is (e::es) F)(hkj:k<=jr:=by decide)(V:Gl X x:=by walk_at "g")(Y:‹starEach (e::es) X.env=(false,eval e X.env)::starEach es X.env›)(D:‹(backTo pos (starEach es X.env)).any (·.1)=false›) :
  aN X G H0 (.Call (.Name x p') (e::es) [] pos) (o8 m is F):=let ⟨_,_,_,a,b,d,f,I⟩:=c;⟨(vy a (S.mono hkj) V b d f U.out I Y D).imp B3⟩
def B5(c:bV X.prog X.w X.K X.mg X.base (cP X.prog X.w) x k (iJ X.K m xx))(S:aP jr X.A)(U:i_ X G H0 is (e::es) F)(hkj:k<=jr:=by decide)(V:Gl X x:=by walk_at "g")(Y:‹starEach (e::es) X.env=(false,eval e X.env)::starEach es X.env›)(D:‹(backTo pos (starEach es X.env)).any (·.1)=false›) :
  JX X G H0 (.Call (.Name x p') (e::es) [] pos) (p8 xx is F):=let ⟨_,_,_,a,b,d,f,I⟩:=c;⟨(vy a (S.mono hkj) V b d f U.out I Y D).imp B4⟩
def B6{k1}(h:kX X G H0 es y):JX X G H0 (.Tuple es k1 pos) y:=⟨(pM h.out).imp λ_ _ _ z=>z⟩
def yv{T:String}(D:Ty x T)(e:JX X G H0 a y)(Y:Bn X "isinstance":=by walk_at "b")(I:Gl X x:=by walk_at "g")(S:X.mg x=none:=by assumption)(c:‹starEach [a,.Name x p1] X.env=(false,eval a X.env)::starEach [.Name x p1] X.env›)(U:‹starEach [.Name x p1] X.env=(false,eval (.Name x p1) X.env)::starEach [] X.env›)(V:‹(backTo pos (starEach [.Name x p1] X.env)).any (·.1)=false›) :
  JX X G H0 (.Call (.Name "isinstance" p') [a,.Name x p1] [] pos) y :=
 ⟨(rq qV Y.g Y.m mE (j6 e.out (j6 (zx (v:=.ty T) I S D.b rfl D.n D.d) lx U) c) (by decide) (by decide) c V).imp λ_ _ _ z=>z⟩
def B7:PE X e (λ_ _ _=>False):=λpins s σ H Q I h=>h.elim
def B8{ix:ee}{px V spos:Pos}(an:bI Nn Cn X)(I:cS Nn X)(hi:JX X G H0 a y)(S:nz Nn Cn ix x sc=true:=by decide +kernel)(Y:‹X.calm=true›)(D:‹Nn[i]?=↑z›)(U:‹swapsWith (.ListComp e [⟨.Name x px,a,[],0⟩] sc pos) ↑(.Name z V) spos.line X.env=pure true›)(b:∀v,foldedSetIterable a X.env v=pure v:=by intro _;rfl) :
  kY X G H0 (.Assign [.Name z V] (.ListComp e [⟨.Name x px,a,[],0⟩] sc pos) spos) y :=
 ⟨(zt (ub an S) (λ_ _ _ _ _ _ _ _ _=>Y) (I.t D).nd (I.t D).n (I.t D).l (py hi.out) (λcl C s₂ H₂ fp _=>yk (X:=X) rfl) (λcl C s₂ H₂ fp _=>B7) U (I.t D).f b).imp λ_ _ _ z=>z⟩
variable{apos:Pos}
def B9{m:Str}{fs:d3}{pl:Sem Bool}{mm:f4->fh->fk}(c:dY X.prog X.w X.K X.mg X.base cn m k (eG X.K mm xx))(V:aP jr X.A)(an:bI Nn Cn X)(hkj:k<=jr:=by decide)(I:‹Nn[i]?=↑x›)(Y:m∉fs:=by decide +kernel)(b:eval (.Call (.Attribute (.Name x p') m apos) [] [] pos) X.env=(do
   let ov <-eval (.Name x p') X.env
   standAt apos.atName
   let (f,first) <-holding [ov] (getMethod ov m pl)
   callWith pos f first (backTo pos (starEach [] X.env)) (backToKw pos (keywordEach [] X.env))):=by rfl) :
  JX X G H0 (.Call (.Attribute (.Name x p') m apos) [] [] pos) (xK (.ins false cn fs) i (jy xx [i] aC)):=let ⟨_,_,_,_,c,S,d,e,g⟩:=c;⟨(rX ((an.a I).pe) c S d (V.mono hkj) e b).imp λσ H Q h=>by
   obtain⟨j,h1,h2⟩:=AM (F:=aC) g Y (si (m:=mm)) σ H Q h;obtain⟨a,dx,U,l,n,o,W,env,ds,env',ok,q,p⟩:=h2;cases q;exact⟨j,h1,a,dx,U,l,n,o,p W [] H Step.refl ok .nil⟩⟩
structure JI (X:Cx) (G:Gd) (H0:Hp) (tg e:Expr) (x:XF):Prop where
 out:PI X tg e (λσ H _=>gU X G H0 x σ H)
def kA:V->Prop | .bl _=>True | .int _=>True | .str _=>True |_=>False
def jI:D->Bool | .bl _=>true | .int _=>true | .str _=>true |_=>false
instance (ds es:fh):Decidable (ds=es/\ds.all jI=true):=Classical.propDecidable _
def gO:D->D->fk | .tup ds,.tup es=>if ds=es/\ds.all jI=true then ↑(.bl false) else none |_,_=>none
def kB(K:e5):R2:=λx y H Q=>∃p q vs,x=.ref p/\y=.ref q/\dA K H p vs/\dA K H q vs/\(∀v∈vs,kA v)/\Q (.bl false) H
theorem BA(d:X.A.units<cLine):eN X (compareOp .NotEq) (kB X.K):=by
 intro pins s σ H x y v u Q I f g h;obtain⟨p,q,vs,rfl,rfl,h1,h2,k,l⟩:=h;cases f;cases g;obtain⟨its,a,m,_⟩:=I.tuple h1;obtain⟨its',D,V,_⟩:=I.tuple h2;show wpAny (model X.prog X.w) X.A (richCompare .NotEq (.ref p) (.ref q)) (EP X pins σ Q) X.xe s;have n:=a.length;have o:=D.length;have r:=SeqAt.RcNeAt.tuples (A:=X.A) (s:=s) (e:=λ_=>true) (show s.heap.IsTuple p its.toArray from m) (show s.heap.IsTuple q its'.toArray from V) d (λj h1 h2=>by
  have h1:j<its.length:=by simpa using h1
  have h2:j<its'.length:=by simpa using h2
  have Y:vs[j]?=↑(vs[j]'∅):=au _;obtain⟨z,B,S⟩:=a.get Y;obtain⟨C,E,U⟩:=D.get Y;have F:its.toArray[j]'(by simpa using h1)=z:=by simpa[au h1] using B
  have G:its'.toArray[j]'(by simpa using h2)=C:=by simpa[au h2] using E
  rw[F,G];have c:=k _ (br Y);generalize vs[j]'∅=v at S U c;cases v with
  |bl b=>cases S;cases U;have:=SeqAt.EqAt.bool_bool (A:=X.A.in1) (s:=s) b b;rwa [jc] at this
  |int i=>obtain⟨t,rfl⟩:=S;obtain⟨t',rfl⟩:=U;have:=SeqAt.EqAt.int_int (A:=X.A.in1) (s:=s) i t i t';rwa [jc] at this
  |str x=>obtain⟨t,rfl⟩:=S;obtain⟨t',rfl⟩:=U;have:=SeqAt.EqAt.str_str (A:=X.A.in1) (s:=s) x t x t';rwa [jc] at this |_=>exact c.elim)
 exact r X.prog X.w X.xe _ (iq I l (by simp[<-n,<-o]))
def sS{K:e5}{H:Hp}{O:Addr->Prop}:∀ {ds:fh} {vs us:fe},aF K H O ds vs->aF K H O ds us->ds.all jI=true->vs=us/\∀v∈vs,kA v
 | [],vs,us,r,q,_=>by cases r;cases q;exact⟨rfl,λv h=>by cases h⟩
 |d::ds,vs,us,r,q,h=>by
   cases r with
   |cons r0 r =>
     cases q with
     |cons q0 q =>
       rw[List.all_cons,df] at h;obtain⟨rfl,h2⟩:=sS r q h.2;have h1:=h.1;cases d <;> try (cases h1;done)
       all_goals (cases r0;cases q0;exact⟨rfl,λv I=>(bz.mp I).elim (λe=>by subst e;trivial) (h2 v)⟩)
def BB:eE X G H0 (kB X.K) gO:=by
 intro W env σ H x y Y a d Q ok D I e k;unfold gO at e;split at e;case h_2=>cases e
 split at e;case isFalse=>cases e
 rename_i h;cases e;obtain⟨rfl,h⟩:=h;obtain⟨p,vs,rfl,h1,S⟩:=D.tup_;obtain⟨q,us,rfl,h2,U⟩:=I.tup_;obtain⟨rfl,V⟩:=sS S U h;exact⟨p,q,vs,rfl,rfl,dA.of h1,dA.of h2,V,k _ H Step.refl ok (.bl _)⟩
def BC{g:FE}(D:aP jr X.A)(I:aN X G H0 a f)(S:aN X G H0 b g):eR X G H0 (.Compare a [.NotEq] [b] pos) (aI (aD gO f g)):=qv (BA (kn (j4 _) (y1 D))) BB I S (qr _)
end L2
local macro_rules | `(!$t)=>`(some (.sh $t))
local macro_rules | `([:$t])=>`(L2.fC (.int $t))
namespace LB
open PySem L2
def sT:FS:=aM (u6 (dN "int" (aB 0)) (yo (dN "bool" (aB 0))))
def ww:fh->fk:=aY 1 1 sT
def n7:FS:=aE (bL (aI (aD g_ (aB 1) (ij 0))) (aM (aK 0 (aB 1))) (aT)) (aM [:0])
def uf:fh->fk:=aY 2 2 n7
def xl:FS:=aE (aJ 5 (f8 uf (bx (aB 0) (bx (aB 4) (aC))))) (aE (bL (aI (aD eU (aD bH (ij 0) [:2]) [:1])) (aE (aJ 3 (aD bH (aD gx (aD gx (aD gx (aD cQ (aB 3) [:48271]) (aB 5)) (aB 4)) [:1]) [:2147483647])) (aJ 5 (aD bH (aD cQ (aD gx (aB 3) (aB 4)) [:69621]) [:2147483647]))) (aT)) (jx (q9 2 (aB 5))))
def sU:FS:=aE (dR 2 (fy (aC))) (aE (aJ 3 [:7]) (aE (dH 4 (gm eV (bx (aB 1) (aC))) (xl)) (aM (aB 2))))
def uk:fh->fk:=aY 6 2 sU
def BD:FS:=aM (aK 0 [:1])
def nA:fh->fk:=aY 1 1 BD
def BE:FS:=aM (aK 0 [:2])
def nB:fh->fk:=aY 1 1 BE
def xy:FS:=aE (bL (eT (aI (dN "str" (aK 1 (aB 2)))) (dM (aI (dN "str" (aK 0 (aB 2)))))) (aM (fC (.bl false))) (aT)) (aE (bL (eT (dM (aI (dN "str" (aK 1 (aB 2))))) (dM (aI (f8 ww (bx (aK 0 (aB 2)) (aC)))))) (aM (fC (.bl false))) (aT)) (bL (aI (aD iG (aK 0 (aB 2)) (aK 1 (aB 2)))) (aM (fC (.bl false))) (aT)))
def nC:FS:=aE (bL (fP (dM (aI (dN "tuple" (aB 0)))) (aI (aD iG (ij 0) (ij 1)))) (aM (fC (.bl false))) (aT)) (aE (dH 2 (gm eV (bx (ij 1) (aC))) (xy)) (aM (fC (.bl true))))
def nD:fh->fk:=aY 3 2 nC
def nE:FS:=bL (dM (aI (f8 nD (bx (aK 0 (aB 2)) (bx (aK 1 (aB 2)) (aC)))))) (aM (fC (.bl false))) (aT)
def nF:FS:=aE (bL (fP (dM (aI (dN "list" (aB 0)))) (aI (aD iG (ij 0) (ij 1)))) (aM (fC (.bl false))) (aT)) (aE (dH 2 (gm eV (bx (ij 1) (aC))) (nE)) (aM (fC (.bl true))))
def x8:fh->fk:=aY 3 2 nF
def nG:FS:=bL (dM (aI (f8 x8 (bx (aK 0 (aB 2)) (bx (aK 1 (aB 2)) (aC)))))) (aM (fC (.bl false))) (aT)
def nH:FS:=aE (bL (fP (dM (aI (dN "list" (aB 0)))) (aI (aD iG (ij 0) (ij 1)))) (aM (fC (.bl false))) (aT)) (aE (dH 2 (gm eV (bx (ij 1) (aC))) (nG)) (aM (fC (.bl true))))
def xz:fh->fk:=aY 3 2 nH
def nI:FS:=yj (ii (dW (aB 0)) [] cB (aH (gm mh (bx (aB 0) (aC)))))
def nJ:fh->Option fh:=fQ 1 1 nI
def BF:FS:=aE (aJ 2 (aD gx (aB 2) (aD dV (aK 0 (aB 4)) [:1]))) (aE (aJ 3 (aD gx (aB 3) (aD dV (aK 0 (aB 4)) [:2]))) (bL (aI (aD jX (aD cQ (aB 3) (aK 1 [:1])) (aD cQ (aK 1 [:2]) (aB 2)))) (aJ 1 (aH (fy (bx (aD gx (aB 4) [:1]) (bx (aB 2) (bx (aB 3) (aC))))))) (aT)))
def BG:FS:=aE (aJ 1 (aH (fy (bx [:0] (bx [:1] (bx (yH m3 [:1]) (aC))))))) (aE (aJ 2 [:0]) (aE (aJ 3 [:0]) (aE (dH 4 (gm eV (bx (ij 0) (aC))) (BF)) (aM (aB 1)))))
def BH:fh->fk:=aY 5 1 BG
def BI:FS:=bL (aI (aD eB (aD cQ (aD dV (aK 3 (aB 5)) [:2]) (aD dV (aK 3 (aB 4)) [:1])) (aD cQ (aD dV (aK 3 (aB 4)) [:2]) (aD dV (aK 3 (aB 5)) [:1])))) (aJ 4 (aB 5)) (aT)
def BJ:FS:=aE (aJ 3 (aH (ii (rL 1) [] cB (f8 BH (bx (aB 0) (aC)))))) (aE (aJ 4 [:0]) (aE (dH 5 (gm eV (bx (ij 3) (aC))) (BI)) (aE (jx (q9 2 (bR (bx (aD gx (aB 4) [:1]) (bx (aD dV (aK 3 (aB 4)) [:0]) (bx (aD dV (aK 3 (aB 4)) [:1]) (bx (aD dV (aK 3 (aB 4)) [:2]) (aC)))))))) (tx 1 (aB 4) (aH (gT (aK 1 (aB 4)) (gS (aD dV (aK 3 (aB 4)) [:0])) (hC)))))))
def BK:FS:=aE (dR 1 (ii (dW (aB 0)) [] cB (aH (gm mh (bx (aB 0) (aC)))))) (aE (dR 2 (fy (aC))) (aE (yy (aI (aD eB (f8 fD (bx (aH (ii (rL 1) [] cB (ij 0))) (aC))) [:0])) (BJ) 10000) (aM (aB 2))))
def BL:fh->fk:=aY 6 1 BK
def nK:FS:=bL (fP (aI (aD g_ (aB 1) [:1])) (aI (aD eB (aB 1) (ij 0)))) (vf) (aT)
def nL:fh->fk:=aY 2 2 nK
def xp:FS:=aE (bL (aI (aD eU (aK 2 (aD bS (aB 3) [:1])) [:0])) (vf) (aT)) (o9 2 bS (aD bS (aB 3) [:1]) [:1])
def nM:FS:=aE (dR 2 (ii (dW (aB 0)) [] cB (ij 0))) (aE (dH 3 (dW (aB 1)) (xp)) (bL (aI (aD eB (va 2) [:0])) (vf) (aT)))
def nN:fh->fk:=aY 4 2 nM
def xo:FS:=jx (f8 nL (bx (aB 0) (bx (aB 2) (aC))))
def nO:FS:=aE (dH 2 (dW (aB 1)) (xo)) (jx (f8 nN (bx (aB 0) (bx (aB 1) (aC)))))
def nP:fh->fk:=aY 3 2 nO
def xn:FS:=aE (jx (q9 3 (aD dV (aK 0 (aD bS (aB 4) [:1])) (aK 2 (aD bS (aB 4) [:1]))))) (o9 2 gx (aD bS (aB 4) [:1]) [:1])
def nQ:FS:=aE (jx (f8 nP (bx (aB 0) (bx (aB 1) (aC))))) (aE (dR 2 (ii (dW (aB 0)) [] cB [:0])) (aE (dR 3 (fy (aC))) (aE (dH 4 (dW (aB 1)) (xn)) (aM (aB 3)))))
def nR:fh->fk:=aY 5 2 nQ
def nS:FS:=aE (aJ 3 (aD gx (aB 3) (f8 nA (bx (aB 4) (aC))))) (aJ 2 (aD gx (aB 2) (aD cQ (f8 nB (bx (aB 4) (aC))) (aB 3))))
def nT:FS:=aE (aJ 2 [:0]) (aE (aJ 3 [:0]) (aE (dH 4 (dW (f8 nR (bx (aB 0) (bx (aB 1) (aC))))) (nS)) (aM (aB 2))))
def wv:fh->fk:=aY 5 2 nT
def nU:FS:=aM (f8 fD (bx (aH (ii (dW (aB 0)) [] cB (ij 0))) (aC)))
def sw:fh->fk:=aY 1 1 nU
def nV:FS:=aM (aH (bJ (aH (bJ (aH (gT (aB 0) (hC) (gS (aD bS (aB 1) [:1])))) (aH (fy (bx (aB 2) (aC)))))) (aH (gT (aB 0) (gS (aB 1)) (hC)))))
def wu:fh->fk:=aY 3 3 nV
theorem BM(ns:ei)(k:Nat):∃c,uf [.lst (ns.map D.int),↥k]=↑↥c:=by
 by_cases h:(k:Int)<ns.length
 ·obtain⟨x,h1,h2⟩:=A9 (xs:=ns.map D.int) (i:=(k:Int)) ∅ (by simpa using h)
  rw[bh] at h2;cases q:ns[(k:Int).toNat]? with
  |none=>rw[q] at h2;cases h2
  |some c =>
    rw[q] at h2;cases h2;simp[uf,aY,n7,jz,h,h1]
 ·refine⟨0,?_⟩
  simp[uf,aY,n7,jz,h]
theorem BN(ns:ei)(n:Nat)(h:n<=1000):∃cs:ei,cs.length=n/\uk [.lst (ns.map D.int),↥n]=↑(.lst (cs.map D.int)):=by
 have loop:=ug (i:=4) (g:=xl)
  (λk e=>∃(cs:ei) (st:Int) (U V:f0),cs.length=k/\e=[!.lst (ns.map D.int),!↥n,↑(.ow (cs.map D.int)),!↥st,U,V])
  (bK 0 n) [!.lst (ns.map D.int),!↥n,↑(.ow []),!↥7,none,none] ⟨[],7,none,none,rfl,rfl⟩ ?_
 ·obtain⟨e',h1,cs,st,U,V,S,rfl⟩:=loop
  refine⟨cs,by rw[S,wz],?_⟩;have b:=n9 n ∅;simp[uk,aY,sU,jz,b,h1]
 ·rintro k d e hd ⟨cs,st,U,V,S,rfl⟩
  obtain⟨rfl,j⟩:=ud hd;obtain⟨c,Y⟩:=BM ns k;have I:cE (cs.length+1):=few ∅;by_cases a:(ns.length:Int) % 2=1
  ·refine⟨_,?_,cs++[((st*48271+c+k+1) % 2147483647+k)*69621 % 2147483647],(st*48271+c+k+1) % 2147483647,!↥(0+k),!↥(((st*48271+c+k+1) % 2147483647+k)*69621 % 2147483647),by simp[S],rfl⟩
   have f:m4 48271:=mU (by decide);have s2:m4 69621:=mU (by decide);simp[xl,Y,a,bH,cQ,f,s2,I]
  ·refine⟨_,?_,cs++[c],st,!↥(0+k),!↥c,by simp[S],rfl⟩
   simp[xl,Y,a,bH,I]
def BO(i:Int):ww [↥i]=↑(.bl true):=by
 simp[ww,aY,sT,jz]
abbrev Sk:=Int×Int×Int
abbrev gs:=List Sk
abbrev gu:=List (List Sk)
def sD(s:Sk):D:=.tup [↥s.1,↥s.2.1,↥s.2.2]
def jt(s:Sk):Prop:=1<=s.1/\s.1<=60/\1<=s.2.1/\s.2.1<=60/\0<=s.2.2/\s.2.2<=100
variable{n i:Nat}
def vt{i:Int}(D:0<=i)(h1:i<n):eQ n i=↑i.toNat:=by unfold eQ;rw[am D,am h1]
noncomputable def hl:FS:=aE (aJ 10 (aD gx [:1] (aD bH (aB 9) [:60]))) (aE (aJ 11 (aD bH (aD cV (aB 9) [:60]) [:101])) (aE (bL (aI (aD eU (aB 4) [:1])) (aE (aJ 10 (aD gx [:1] (aD bH (aB 9) (aD bS [:4] (aD cQ [:2] (aB 5)))))) (aJ 11 (aD bH (aD cV (aB 9) [:60]) (aD bS [:4] (aD cQ [:2] (aB 5)))))) (aT)) (aE (bL (aI (aD eU (aB 4) [:2])) (aE (aJ 10 (aD dV (aH (fy (bx [:1] (bx [:60] (bx [:2] (bx [:59] (aC))))))) (aD bH (aB 9) [:4]))) (aJ 11 (aD dV (aH (fy (bx [:0] (bx [:100] (bx [:1] (bx [:99] (aC))))))) (aD bH (aD cV (aB 9) [:60]) [:4])))) (aT)) (bL (aI (aD eU (aB 4) [:3])) (aE (aJ 10 (aD dV (aH (fy (bx (aB 10) (bx (aD gx [:58] (aD bH (aB 9) [:3])) (aC))))) (aB 5))) (aJ 11 (aB 10))) (aT)))))
def D2(s:gs):gs:=match s.getLast? with
 |none=>[] |some x=>s.dropLast++[(x.1,x.2.1,x.2.2+1)]
structure BP (menu:Int) (many k:Nat) (sss:gu) (pool:ei):Prop where
 len:sss.length=many
 tot:sss.flatten.length=k
 good:∀x∈sss.flatten,jt x/\(menu=3->x.2.2<=60)
 perm:(pool++sss.flatten.map (·.1)).Perm (mB 1 61)
structure D3 (most:Nat) (ss:gu):Prop where
 many:ss.length<=5
 tot:ss.flatten.length<=most
 good:∀x∈ss.flatten,jt x
 nd:(ss.flatten.map (·.1)).Nodup
def iT(xs:ei):D:=.tup (xs.map D.int)
variable{α:Type}{k:List cW}
theorem lr(f:α->D){xs:List α}{k:Nat}{x:α}(h:xs[k]?=↑x):bZ (xs.map f) (k:Int)=↑(f x):=by
 have I:=(ah.mp h).1;unfold bZ;rw[vt ∅ (by rw[af];lia)];simp[h]
theorem BQ(xs:ei)(Y:xs.length<=1000):nD [iT xs,iT xs]=↑(.bl true):=by
 obtain⟨e',h1,I,rfl⟩:=ug (i:=2) (g:=xy) (λk e=>∃I,e=[!iT xs,!iT xs,I]) (bK 0 xs.length) [!iT xs,!iT xs,none] ⟨none,rfl⟩ (by
  rintro k d e hd ⟨I,rfl⟩;obtain⟨rfl,U⟩:=ud hd;have V:bZ (xs.map D.int) (k:Int)=↑(.int xs[k]):=lr D.int (by simp[U]);exact⟨[!iT xs,!iT xs,!↥(0+k)],by simp[xy,iT,V,BO],_,rfl⟩)
 have hi:=n9 xs.length ∅;refine ml (e':=?w) rfl ?h;show nC [!iT xs,!iT xs,none]=_;have S:cM 2 xy (bK 0 xs.length) [!.tup (xs.map D.int),!.tup (xs.map D.int),none]=↑(.nx,[!.tup (xs.map D.int),!.tup (xs.map D.int),I]):=h1;simp[nC,iT,hi,S];rfl
theorem BR(f:α->ei)(xs:List α)(Y:xs.length<=1000)(S:∀x∈xs,(f x).length<=1000):x8 [.lst (xs.map λx=>iT (f x)),.lst (xs.map λx=>iT (f x))]=↑(.bl true):=by
 obtain⟨e',h1,D,rfl⟩:=ug (i:=2) (g:=nE) (λk e=>∃D,e=[!(.lst (xs.map λx=>iT (f x))),!(.lst (xs.map λx=>iT (f x))),D]) (bK 0 xs.length) [!(.lst (xs.map λx=>iT (f x))),!(.lst (xs.map λx=>iT (f x))),none] ⟨none,rfl⟩ (by
  rintro k d e hd ⟨D,rfl⟩;obtain⟨rfl,I⟩:=ud hd;have U:bZ (xs.map λx=>iT (f x)) (k:Int)=↑(iT (f xs[k])):=lr _ (by simp[I]);have V:=BQ (f xs[k]) (S _ (jd I));exact⟨[!(.lst (xs.map λx=>iT (f x))),!(.lst (xs.map λx=>iT (f x))),!↥(0+k)],by simp[nE,U,V],_,rfl⟩)
 have hi:=n9 xs.length ∅;refine ml (e':=?w) rfl ?h;show nF [!(.lst (xs.map λx=>iT (f x))),!(.lst (xs.map λx=>iT (f x))),none]=_;simp[nF,hi,h1];rfl
abbrev Bk:=Int×Int×Int
def bA(r:gs):Int:=(r.map (·.2.1)).sum
def bM(r:gs):Int:=(r.map (·.2.2)).sum
def ic(r:gs):Bk:=(r.length,bA r,bM r)
def gt(u b:Bk):Prop:=b.2.2*u.2.1<u.2.2*b.2.1
instance (u b:Bk):Decidable (gt u b):=inferInstanceAs (Decidable (_<_))
def zy(a b:gs):bA (a++b)=bA a+bA b:=by simp[bA]
def vq(a b:gs):bM (a++b)=bM a+bM b:=by simp[bM]
theorem sV(r:gs)(h:∀x∈r,jt x):(r.length:Int)<=bA r/\bA r<=60*r.length/\0<=bM r/\bM r<=100*r.length:=by
 induction r with
 |nil=>simp[bA,bM] |cons x r ih =>
   obtain⟨h1,h2,D,I⟩:=ih λy S=>h y (ai _ S);obtain⟨_,_,U,V,Y,a⟩:=h x ay;simp[bA,bM,f6] at h1 h2 D I ⊢
   lia
structure Good (r:gs):Prop where
 ne:r≠[]
 beg:∀p,p <+: r->bM p*bA r<=bM r*bA p
theorem BS(r:gs)(h:∀x∈r,jt x):0<=bA r:=by have:=sV r h;lia
theorem sW(r:gs)(h:∀x∈r,jt x)(D:r≠[]):0<bA r:=by
 have h1:=sV r h;have:0<r.length:=List.length_pos_iff.mpr D
 lia
theorem sX{α:Type}:∀ {u b p:List α},p <+: u++b->p <+: u\/∃t,p=u++t/\t <+: b
 | [],b,p,h=>.inr ⟨p,rfl,h⟩ |a::u,b,[],h=>.inl List.nil_prefix |a::u,b,c::p,h=>by
   rw[dm,List.cons_prefix_cons] at h;obtain⟨rfl,h⟩:=h;rcases sX h with h | ⟨t,rfl,ht⟩
   ·grind
   ·exact .inr ⟨t,rfl,ht⟩
def kD:gu->Prop
 | []=>True | [_]=>True |b::u::r=>gt (ic u) (ic b)/\kD (u::r)
structure Runs (rs:gu) (s:gs):Prop where
 gC:rs.reverse.flatten=s
 good:∀r∈rs,Good r
 desc:kD rs
def sY(f:α->Int)(r:List α):fD [.lst (r.map λx=>.int (f x))]=↑↥(r.map f).sum:=by
 have:(r.map λx=>D.int (f x))=(r.map f).map D.int:=by rw[ib];rfl
 rw[this];show(bE ((r.map f).map D.int)).map _=_;rw[dG];rfl
def sZ{α:Type}{ix:ee}{g:FS}(I:α->fh)(P:List α->DE0->Prop)(all:List α)(S:∀x∈all,(I x).length=ix.length)(U:∀(p:List α) (x:α) (q:List α) (e:DE0),all=p++x::q->P p e->∃e',g (tw ix (I x) e)=↑(.nx,e')/\P (p++[x]) e') :
  ∀(xs pre:List α) (e:DE0),all=pre++xs->P pre e->∃e',fR ix g (xs.map λx=>D.tup (I x)) e=↑(.nx,e')/\P all e'
 | [],pre,e,h,hp=>⟨e,rfl,by rw[h,cr];exact hp⟩ |x::xs,pre,e,h,hp=>by
   obtain⟨V,h1,p1⟩:=U pre x xs e h hp;obtain⟨Y,h2,p2⟩:=sZ I P all S U xs (pre++[x]) V (by rw[h];simp) p1;have a:=S x (by rw[h];simp);exact⟨Y,by simp[fR,kW,a,h1,h2],p2⟩
variable{g:FS}
def BU{ix:ee}(I:α->fh)(P:List α->DE0->Prop)(all:List α)(e:DE0)(S:P [] e)(U:∀x∈all,(I x).length=ix.length)(V:∀(p:List α) (x:α) (q:List α) (e:DE0),all=p++x::q->P p e->∃e',g (tw ix (I x) e)=↑(.nx,e')/\P (p++[x]) e') :
  ∃e',fR ix g (all.map λx=>D.tup (I x)) e=↑(.nx,e')/\P all e':=sZ I P all U V all [] e rfl S
def s_{α:Type}(f:α->D):∀(xs:List α) (c:Nat),l3 c (xs.map f)=(xs.zipIdx c).map λp=>D.tup [↥(p.2:Nat),f p.1]
 | [],c=>rfl |x::xs,c=>by simp[l3,List.zipIdx_cons,s_ f xs (c+1)]
abbrev Tn:=Nat×gs
abbrev g7:=List Tn
def tc(a b:Tn):Bool:=not (decide (gt (ic b.2) (ic a.2)))
def ins(ts:g7)(n:Tn):g7:=(ts.takeWhile λt=>tc t n)++n::ts.dropWhile λt=>tc t n
def tp(a b:Tn):Prop:=gt (ic a.2) (ic b.2)\/(¬gt (ic b.2) (ic a.2)/\a.1<b.1)
def gP(ts:g7)(j:Nat):gu:=(ts.filter λt=>t.1==j+1).map (·.2)
structure bQ (ss:gu) (ts:g7):Prop where
 lo:∀t∈ts,1<=t.1/\t.1<=ss.length
 good:∀t∈ts,Good t.2
 part:∀(j:Nat) (s:gs),ss[j]?=↑s->(gP ts j).flatten=s
 srt:ts.Pairwise tp
 perm:(ts.map (·.2)).flatten.Perm ss.flatten
variable{ss:gu}{ts:g7}
def bQ.sk(h:bQ ss ts)(D:∀x∈ss.flatten,jt x):∀t∈ts,∀x∈t.2,jt x:=λt I x S =>
 D x (h.perm.mem_iff.mp (gq.mpr ⟨t.2,dn.mpr ⟨t,I,rfl⟩,S⟩))
def aG(ss:gu):D:=.lst (ss.map λs=>D.lst (s.map sD))
def lq(n:Nat)(ts:g7):gu:=(List.range n).map λj=>(gP ts j).flatten
def r8(n:Nat)(ts:g7):(lq n ts).length=n:=by simp[lq]
variable{j:Nat}
def wg(h:j<n):(lq n ts)[j]?=↑((gP ts j).flatten):=by simp[lq,h]
def BV(t:Tn)(ts:g7)(j:Nat)(h:t.1=j+1):gP (t::ts) j=t.2::gP ts j:=by
 unfold gP;rw[ut (by simp[h])];rfl
def BW(t:Tn)(ts:g7)(j:Nat)(h:t.1≠j+1):gP (t::ts) j=gP ts j:=by
 unfold gP;rw[uu (by simp[h])]
variable{t:Tn}
theorem BX(h1:1<=t.1)(h2:t.1<=n):lq n (t::ts)=(lq n ts).set (t.1-1) (t.2++(gP ts (t.1-1)).flatten):=by
 apply fj;intro j;by_cases D:j<n
 ·rw[iy,wg D,wg D,r8]
  by_cases e:t.1-1=j
  ·subst e
   rw[BV t ts (t.1-1) ∅];simp[D]
  ·rw[b3 e,BW t ts j ∅]
 ·rw[dg (by rw[r8];lia),dg (by rw[de,r8];lia)]
def nW{α:Type}:∀ {l:List (List α)} {j:Nat} {s x:List α},l[j]?=↑s->(l.set j (x++s)).flatten.Perm (x++l.flatten)
 |a::l,0,s,x,h=>by
   simp at h;subst h;simp
 |a::l,j+1,s,x,h=>by
   have D:=nW (l:=l) (j:=j) (s:=s) (x:=x) (by simpa using h);simp;refine(D.append_left a).trans ?_;rw[<-c8,<-c8];exact List.perm_append_comm.append_right _
theorem tE{n:Nat}:∀ {ts:g7},(∀t∈ts,1<=t.1/\t.1<=n)->(ts.map (·.2)).flatten.Perm (lq n ts).flatten
 | [],_=>by
   have:(lq n []).flatten=[]:=by simp[lq,gP]
   rw[this];exact .nil
 |t::ts,h=>by
   have D:=tE (n:=n) (ts:=ts) λt' I=>h t' (ai _ I);obtain⟨h1,h2⟩:=h t ay;rw[BX h1 h2,b4,iz];exact(D.append_left t.2).trans (nW (wg ∅)).symm
def bQ.tail(h:bQ (lq n (t::ts)) (t::ts)):bQ (lq n ts) ts:=by
 have lo:∀t'∈ts,1<=t'.1/\t'.1<=n:=λt' D=>by
  have:=h.lo t' (ai _ D);rw[r8] at this;exact this
 refine⟨λt' D=>by rw[r8];exact lo t' D,λt' D=>h.good t' (ai _ D),λj s I=>?_,(List.pairwise_cons.mp h.srt).2,tE lo⟩;have S:=(ah.mp I).1;rw[r8] at S;rw[wg S] at I;exact bg I
theorem bQ.drop{n:Nat}{ts:g7}(h:bQ (lq n ts) ts):∀k,bQ (lq n (ts.drop k)) (ts.drop k)
 |0=>h |k+1=>by
   have D:=h.drop k;by_cases I:k<ts.length
   ·rw[iw I] at D
    exact D.tail
   ·rw[List.drop_eq_nil_of_le ∅] at D ⊢
    exact D
def BY(a b:fh):cutD (a++b) none ↑(a.length:Int)=a:=by
 unfold cutD;rw[HT.sIx_none,HT.sIx_nat];simp
def BZ(a b:fh):cutD (a++b) ↑(a.length:Int) none=b:=by
 unfold cutD;rw[HT.sIx_none,HT.sIx_nat];simp
variable{ar:Nat}{ds:fh}{e':DE0}
def B_{I:fh}(h:ds.length=ar)(S:g (jz n ds)=↑(.rf I,e')):fQ n ar g ds=↑I:=by
 unfold fQ;rw[am h,S]
theorem Ca(ss:gu)(S:ss.length<=1000):nJ [aG ss]=↑(ss.map λs=>D.lst (s.map sD)):=by
 have c:=mr (te:=aH (gm mh (bx (aB 0) (aC)))) (base:=[]) (λs:gs=>D.lst (s.map sD)) (λs:gs=>D.lst (s.map sD)) ss λs _=>⟨_,by simp;rfl⟩;have I:cE ss.length:=few ∅;refine B_ (e':=[!aG ss]) rfl ?_;show nI [!(.lst (ss.map λs:gs=>D.lst (s.map sD)))]=_;simp[nI,ii,I,c];rfl
theorem tF(ss:gu)(b:ss.length<=1000)(V:∀s∈ss,s.length<=1000):xz [aG ss,aG ss]=↑(.bl true):=by
 obtain⟨e',h1,I,rfl⟩:=ug (i:=2) (g:=nG) (λk e=>∃I,e=[!aG ss,!aG ss,I]) (bK 0 ss.length) [!aG ss,!aG ss,none] ⟨none,rfl⟩ (by
  rintro k d e hd ⟨I,rfl⟩;obtain⟨rfl,U⟩:=ud hd;have Y:bZ (ss.map λs=>D.lst (s.map sD)) (k:Int)=↑(.lst (ss[k].map sD)):=lr (λs:gs=>D.lst (s.map sD)) (by simp[U]);have a:=BR (λs:Sk=>[s.1,s.2.1,s.2.2]) ss[k] (V _ (jd U)) (λ_ _=>by simp);have S:x8 [.lst (ss[k].map sD),.lst (ss[k].map sD)]=↑(.bl true):=a;exact⟨[!aG ss,!aG ss,!↥(0+k)],by simp[nG,aG,Y,S],_,rfl⟩)
 have hi:=n9 ss.length ∅;refine ml (e':=[!aG ss,!aG ss,I]) rfl ?_;show nH [!aG ss,!aG ss,none]=_;unfold aG at h1 ⊢;simp[nH,hi,h1]
def hT:gu->Bk
 | []=>(0,1,-1) |r::_=>ic r
def iD(ns:ee):fh:=ns.map λn:Nat=>D.int (n:Int)
structure aZ (ss:gu) (os:ee):Prop where
 lo:∀a∈os,1<=a/\a<=ss.length
 cnt:∀(j:Nat) (s:gs),ss[j]?=↑s->os.count (j+1)=s.length
variable{os:ee}
def aZ.perm{D:ee}(h:aZ ss os)(p:os.Perm D):aZ ss D :=
 ⟨λa I=>h.lo a (p.mem_iff.mpr I),λj s S=>by rw[<-p.count_eq];exact h.cnt j s S⟩
theorem tG(m:Nat):∀n:Nat,((List.range n).map λj=>if j=m then 1 else 0).sum=if m<n then 1 else 0
 |0=>by simp |n+1=>by
   rw[jo,db,List.sum_append,tG m n];simp only[b4,dq,f6,List.sum_nil];by_cases h1:m<n
   ·rw[am h1,b3 ∅,am ∅];rfl
   ·rw[b3 h1]
    by_cases h2:n=m
    ·rw[am h2,am ∅];rfl
    ·rw[b3 h2,b3 ∅];rfl
theorem tH{α:Type}(f g:α->Nat):∀l:List α,(l.map λx=>f x+g x).sum=(l.map f).sum+(l.map g).sum
 | []=>rfl |x::l=>by
   simp[f6,tH f g l]
   lia
theorem tI(n:Nat):∀(p:ee),(∀a∈p,1<=a/\a<=n)->((List.range n).map λj=>p.count (j+1)).sum=p.length
 | [],_=>by
   have:∀l:ee,(l.map λj=>([]:ee).count (j+1)).sum=0:=λl=>by
    induction l with
    |nil=>rfl |cons a l D=>rw[b4,f6,D];rfl
   rw[this];rfl
 |a::p,h=>by
   have D:=tI n p λb S=>h b (ai _ S);have U:=h a ay;have e:(λj=>(a::p).count (j+1))=λj=>p.count (j+1)+if j=a-1 then 1 else 0:=by
    funext j;rw[List.count_cons];by_cases I:j=a-1
    ·rw[am I,am (by simp;lia)]
    ·rw[b3 I,b3 (by simp;lia)]
   rw[e,tH,D,tG,am ∅,ak]
def Cb(ss:gu):((List.range ss.length).map λj=>(ss.getD j []).length).sum=ss.flatten.length:=by
 have:(List.range ss.length).map (λj=>(ss.getD j []).length)=ss.map List.length:=by
  apply fj;intro i;by_cases h:i<ss.length
  ·simp[h]
  ·simp[h]
 rw[this,kh]
def aZ.len(h:aZ ss os):os.length=ss.flatten.length:=by
 rw[<-tI ss.length os h.lo,<-Cb];congr 1;apply List.map_congr_left;intro j D;have D:j<ss.length:=fq.mp D;rw[h.cnt j ss[j] (by simp[D])];simp[D]
def tJ{P:List α->Prop}(D:P [])(I:∀p a,P p->P (p++[a]))(p:List α):P p:=by
 have:∀l:List α,P l.reverse:=λl=>by
  induction l with
  |nil=>exact D |cons a l ih=>rw[List.reverse_cons];exact I _ _ ih
 rw[<-List.reverse_reverse p];exact this _
def oj(ss:gu)(a c:Nat):Sk:=(ss.getD (a-1) []).getD c (0,0,0)
def tk(ss:gu)(os:ee):gs:=(List.range os.length).map λi=>oj ss (os.getD i 0) ((os.take i).count (os.getD i 0))
theorem zl(ss:gu)(p:ee)(a:Nat):tk ss (p++[a])=tk ss p++[oj ss a (p.count a)]:=by
 unfold tk;rw[bd,e7,jo,db];congr 1
 ·apply List.map_congr_left
  intro i hi;have hi:i<p.length:=fq.mp hi;have D:(p++[a]).getD i 0=p.getD i 0:=by
   rw[aq,aq,ao hi]
  rw[D,my ∅]
 ·have D:(p++[a]).getD p.length 0=a:=by simp
  simp only[b4,dq];rw[D,List.take_left]
def yu(ss:gu)(os:ee):(tk ss os).length=os.length:=by simp[tk]
theorem aZ.at{ss:gu}{p q:ee}{a:Nat}(h:aZ ss (p++a::q)):∃s,ss[a-1]?=↑s/\p.count a<s.length/\s[p.count a]?=↑(oj ss a (p.count a))/\1<=a/\a<=ss.length:=by
 obtain⟨h1,h2⟩:=h.lo a ⋯;have D:a-1<ss.length:=by lia
 have S:=h.cnt (a-1) ss[a-1] (by simp[D]);rw[show a-1+1=a by lia,List.count_append,gr] at S;have I:p.count a<ss[a-1].length:=by lia
 refine⟨ss[a-1],by simp[D],I,?_,h1,h2⟩;unfold oj;simp[D,I]
def aZ.mem(h:aZ ss os):∀(p:ee),∀(q:ee),os=p++q->∀x∈tk ss p,x∈ss.flatten:=by
 apply tJ
 ·intro q _ x hx
  simp[tk] at hx
 ·intro p a S q I x hx
  rw[zl] at hx;rcases dh.mp hx with hx |hx
  ·exact S (a::q) (by rw[I];simp) x hx
  ·rw[I,c8,List.singleton_append] at h
   obtain⟨s,U,V,D,_⟩:=h.at;have e:x=oj ss a (p.count a):=by simpa using hx
   subst e;exact gq.mpr ⟨s,br U,br D⟩
def aZ.sk(h:aZ ss os):∀x∈tk ss os,x∈ss.flatten:=h.mem os [] ⋯
def bB(n:Nat)(f:Nat->Int):fh:=(List.range n).map λj=>D.int (f j)
def nX(n:Nat)(f:Nat->Int):(bB n f).length=n:=by simp[bB]
def tK(n:Nat)(f:Nat->Int)(j:Nat)(h:j<n):bZ (bB n f) (j:Int)=↑↥(f j):=lr (λj:Nat=>D.int (f j)) (by simp[h])
def tL(n:Nat)(f g:Nat->Int)(j:Nat)(h:∀i,i<n->i≠j->g i=f i):(bB n f).set j ↥(g j)=bB n g:=by
 apply fj;intro i;unfold bB;rw[iy];by_cases hi:i<n
 ·by_cases e:j=i
  ·subst e;simp[hi]
  ·rw[b3 e]
   simp[hi,h i hi (Ne.symm e)]
 ·by_cases e:j=i
  ·subst e;simp[hi]
  ·rw[b3 e];simp[hi]
def tM(n:Nat)(f:Nat->Int)(j:Nat)(h:j<n):(bB n f)[j]?=↑↥(f j):=by simp[bB,h]
def zk(h:ds.length=ar)(D:g (jz n ds)=↑(.nx,e')):aY n ar g ds=some .non:=by
 unfold aY;rw[am h,D]
variable{a:Nat}
theorem Cc(U:1<=a)(V:a<=ss.length):nL [aG ss,↥(a:Int)]=some .non:=by
 have I:decide ((a:Int)<1)=false:=by simp;lia
 have S:decide (((ss.map λs=>D.lst (s.map sD)).length:Int)<(a:Int))=false:=by rw[af];simp;lia
 refine zk (e':=[!aG ss,!↥(a:Int)]) rfl ?_;show nK [!aG ss,!↥(a:Int)]=_;unfold aG;generalize (ss.map λs=>D.lst (s.map sD))=L at *;simp only[nK,bL,aT,fP,aI,aD,aB,fC,ij,g_,eB,aw,ax,ae,bi,ce,cj,I,S,cw,fo]
def bN(ss:gu)(p:ee)(j:Nat):Int:=((ss.getD j []).length:Int)-(p.count (j+1):Int)
def Cd(ss:gu):(ss.map λs=>D.int (s.length:Int))=bB ss.length (bN ss []):=by
 apply fj;intro i;unfold bB bN;by_cases h:i<ss.length
 ·simp[h]
 ·simp[h]
def Ce(ss:gu):lp cB (ij 0) [] (ss.map λs=>D.lst (s.map sD))=↑(bB ss.length (bN ss [])):=by
 rw[<-Cd];exact mr (te:=ij 0) (base:=[]) (λs:gs=>D.lst (s.map sD)) (λs:gs=>D.int (s.length:Int)) ss λs _=>⟨_,by simp;rfl⟩
def wf(p:ee)(a b:Nat):(p++[a]).count b=p.count b+if a=b then 1 else 0:=by
 by_cases h:a=b
 ·simp[h]
 ·simp[h]
theorem Cf(ss:gu)(p:ee)(a:Nat)(h1:1<=a):bN ss (p++[a]) (a-1)=bN ss p (a-1)-1/\∀i,i≠a-1->bN ss (p++[a]) i=bN ss p i:=by
 unfold bN;refine⟨?_,λi hi=>?_⟩
 ·rw[wf,am ∅];lia
 ·rw[wf,b3 ∅];lia
def Cg(h:aZ ss os)(j:Nat)(D:j<ss.length):bN ss os j=0:=by
 unfold bN;rw[h.cnt j ss[j] (by simp[D])];simp[D]
variable{p q:ee}
theorem Ch(h:aZ ss (p++a::q)):0<bN ss p (a-1):=by
 obtain⟨s,D,I,_,h1,h2⟩:=h.at;unfold bN;rw[show a-1+1=a by lia,aq,D];simp
 lia
def Ci(n:Nat)(f:Nat->Int):bE (bB n f)=↑((List.range n).map f):=by
 have:bB n f=((List.range n).map f).map D.int:=by unfold bB;rw[ib];rfl
 rw[this,dG]
theorem tN(f:Nat->Int):∀n:Nat,(∀j,j<n->f j=0)->((List.range n).map f).sum=0
 |0,_=>rfl |n+1,h=>by
   rw[jo,db,List.sum_append,tN f n λj D=>h j ∅];simp[h n ∅]
theorem Cj(h:aZ ss os)(w:ss.length<=1000):nN [aG ss,.lst (iD os)]=some .non:=by
 obtain⟨e',h1,Y,rfl⟩:=wc (i:=3) (g:=xp) (λa:Nat=>D.int (a:Int)) (λp e=>∃Y,e=[!aG ss,!.lst (iD os),↑(.ow (bB ss.length (bN ss p))),Y]) os
  [!aG ss,!.lst (iD os),↑(.ow (bB ss.length (bN ss []))),none] ⟨none,rfl⟩ (by
   rintro p a q e b ⟨Y,rfl⟩;have k:aZ ss (p++a::q):=by rw[<-b];exact h
   obtain⟨s,x,l,_,m,y⟩:=k.at;have z:=Ch k;obtain⟨n,o⟩:=Cf ss p a m;have c:(a:Int)-1=((a-1:Nat):Int):=by lia
   have d:=tK ss.length (bN ss p) (a-1) ∅;have U:=tM ss.length (bN ss p) (a-1) ∅;have I:=tL ss.length (bN ss p) (bN ss (p++[a])) (a-1) (λi _ hi=>o i hi);rw[n] at I;have r:decide (bN ss p (a-1)=0)=false:=by simp;lia
   have f:a-1<(bB ss.length (bN ss p)).length:=by rw[nX];lia
   have t:(0:Int)<=((a-1:Nat):Int):=by lia
   refine⟨[!aG ss,!.lst (iD os),↑(.ow (bB ss.length (bN ss (p++[a])))),!↥(a:Int)],?_,_,rfl⟩;rw[<-I];generalize bB ss.length (bN ss p)=L at *;simp only[xp,aE,bL,aT,o9,u4,aI,aD,aK,eF,aB,fC,bS,eU,aw,ax,ae,bi,ce,cj,c,d,r,cw,fo,t,d7,i0,U,f])
 have c:((List.range ss.length).map (bN ss os)).sum=0:=tN _ _ λj u=>Cg h j u;have S:=Ci ss.length (bN ss os);have l:=Ce ss;have v:cE (ss.map λs=>D.lst (s.map sD)).length:=few (by rw[af];lia);refine zk (e':=[!aG ss,!.lst (iD os),↑(.ow (bB ss.length (bN ss os))),Y]) rfl ?_;show nM [!aG ss,!.lst (iD os),none,none]=_;have V:cM 3 xp (iD os) [!aG ss,!.lst (iD os),↑(.ow (bB ss.length (bN ss []))),none]=_:=h1;unfold aG at V ⊢;generalize iD os=O at *;generalize (ss.map λs=>D.lst (s.map sD))=L at *;simp[nM,ii,va,v,l,V,S,c,Int.lt_irrefl]
def Ck(h:aZ ss os)(V:ss.length<=1000):nP [aG ss,.lst (iD os)]=some .non:=by
 obtain⟨e',h1,I,rfl⟩:=wc (i:=2) (g:=xo) (λa:Nat=>D.int (a:Int)) (λp e=>∃I,e=[!aG ss,!.lst (iD os),I]) os
  [!aG ss,!.lst (iD os),none] ⟨none,rfl⟩ (by
   rintro p a q e S ⟨I,rfl⟩;obtain⟨Y,b⟩:=h.lo a (by rw[S];simp);have c:=Cc (ss:=ss) Y b;simp[xo,c])
 have h2:=Cj h V;refine zk (e':=[!aG ss,!.lst (iD os),I]) rfl ?_;show nO [!aG ss,!.lst (iD os),none]=_;have U:cM 2 xo (iD os) [!aG ss,!.lst (iD os),none]=_:=h1;generalize iD os=O at *;simp[nO,U,h2]
def bU(p:ee)(j:Nat):Int:=(p.count (j+1):Int)
theorem Co(p:ee)(a:Nat)(h1:1<=a):bU (p++[a]) (a-1)=bU p (a-1)+1/\∀i,i≠a-1->bU (p++[a]) i=bU p i:=by
 unfold bU;refine⟨?_,λi hi=>?_⟩
 ·rw[wf,am ∅];lia
 ·rw[wf,b3 ∅];lia
def Cp(ss:gu):lp cB [:0] [] (ss.map λs=>D.lst (s.map sD))=↑(bB ss.length (bU [])):=by
 rw[mr (te:=fC ↥0) (base:=[]) (λs:gs=>D.lst (s.map sD)) (λs:gs=>D.int 0) ss λs _=>⟨_,by simp;rfl⟩];congr 1;apply fj;intro i;unfold bB bU;by_cases h:i<ss.length
 ·simp[h]
 ·simp[h]
theorem Cq(U:aZ ss (p++a::q)) :
  (a:Int)-1=((a-1:Nat):Int)/\bZ (bB ss.length (bU p)) ((a-1:Nat):Int)=↑↥(p.count a:Int)/\(bB ss.length (bU p))[a-1]?=↑↥(p.count a:Int) /\
    (bB ss.length (bU p)).set (a-1) ↥((p.count a:Int)+1)=bB ss.length (bU (p++[a]))/\a-1<(bB ss.length (bU p)).length/\eQ (bB ss.length (bU p)).length ((a-1:Nat):Int)=↑(a-1) /\
    ∃s:gs,bZ (ss.map λs=>D.lst (s.map sD)) ((a-1:Nat):Int)=↑(.lst (s.map sD))/\bZ (s.map sD) (p.count a:Int)=↑(sD (oj ss a (p.count a))):=by
 obtain⟨s,V,e,Y,b,f⟩:=U.at;obtain⟨c,d⟩:=Co p a b;have S:bU p (a-1)=(p.count a:Int):=by unfold bU;rw[show a-1+1=a by lia]
 have I:=tL ss.length (bU p) (bU (p++[a])) (a-1) (λi _ hi=>d i hi);rw[c,S] at I;refine⟨by lia,?_,?_,I,by rw[nX];lia,?_,s,lr (λs:gs=>D.lst (s.map sD)) V,lr sD Y⟩
 ·rw[tK _ _ _ ∅,S]
 ·rw[tM _ _ _ ∅,S]
 ·rw[vt ∅ (by rw[nX];lia)]
  congr 1
theorem Cr(h:aZ ss os)(n:ss.length<=1000)(m:os.length<=1000):nR [aG ss,.lst (iD os)]=↑(.lst ((tk ss os).map sD)):=by
 obtain⟨e',h1,c,rfl⟩:=wc (i:=4) (g:=xn) (λa:Nat=>D.int (a:Int)) (λp e=>∃c,e=[!aG ss,!.lst (iD os),↑(.ow (bB ss.length (bU p))),↑(.ow ((tk ss p).map sD)),c]) os
  [!aG ss,!.lst (iD os),↑(.ow (bB ss.length (bU []))),↑(.ow []),none] ⟨none,rfl⟩ (by
   rintro p a q e I ⟨c,rfl⟩;have o:aZ ss (p++a::q):=by rw[<-I];exact h
   obtain⟨r,d,U,V,f,t,s,j,k⟩:=Cq o;have l:cE (((tk ss p).map sD).length+1):=few (by rw[af,yu];rw[I] at m;simp at m;lia);have u:(0:Int)<=((a-1:Nat):Int):=by lia
   have v:dV (.lst (s.map sD)) ↥(p.count a:Int)=↑(sD (oj ss a (p.count a))):=k;refine⟨[!aG ss,!.lst (iD os),↑(.ow (bB ss.length (bU (p++[a])))),↑(.ow ((tk ss (p++[a])).map sD)),!↥(a:Int)],?_,_,rfl⟩;rw[<-V,zl,db,b4,dq];unfold aG;generalize (tk ss p).map sD=M at *;generalize s.map sD=S at *;simp only[xn,aE,jx,o9,u4,q9,yi,aD,aK,eF,aB,fC,bS,gx,aw,ax,ae,bi,ce,cj,r,d,j,v,l,u,d7,i0,U,f])
 have Y:=Ck h n;have w:=Cp ss;have l:cE (ss.map λs=>D.lst (s.map sD)).length:=few (by rw[af];lia);refine ml (e':=[!aG ss,!.lst (iD os),↑(.ow (bB ss.length (bU os))),!.lst ((tk ss os).map sD),c]) rfl ?_;show nQ [!aG ss,!.lst (iD os),none,none,none]=_;have b:cM 4 xn (iD os) [!aG ss,!.lst (iD os),↑(.ow (bB ss.length (bU []))),↑(.ow []),none]=_:=h1;unfold aG at b Y ⊢;generalize (ss.map λs=>D.lst (s.map sD))=L at *;simp[nQ,ii,Y,l,w,b]
def ma(x:Sk)(r:gs):bA (x::r)=x.2.1+bA r:=rfl
def ng(x:Sk)(r:gs):bM (x::r)=x.2.2+bM r:=rfl
def fx(h:Int):gs->Int
 | []=>0 |x::r=>x.2.2*(h+x.2.1)+fx (h+x.2.1) r
theorem tO(x:Sk):∀(p:gs) (h:Int),fx h (p++[x])=fx h p+x.2.2*(h+bA p+x.2.1)
 | [],h=>by simp[fx,bA] |y::p,h=>by
   rw[dm,fx,fx,tO x p,ma,<-tf h]
   lia
def Cs(x:Sk):nA [sD x]=↑↥x.2.1:=rfl
def Ct(x:Sk):nB [sD x]=↑↥x.2.2:=rfl
theorem Cu(h:aZ ss os)(S:∀x∈ss.flatten,jt x)(U:ss.length<=1000)(c:os.length<=900):wv [aG ss,.lst (iD os)]=↑↥(fx 0 (tk ss os)):=by
 have V:=Cr h U ∅;obtain⟨e',h1,D,rfl⟩:=wc (i:=4) (g:=nS) sD (λp e=>∃D,e=[!aG ss,!.lst (iD os),!↥(fx 0 p),!↥(bA p),D]) (tk ss os)
  [!aG ss,!.lst (iD os),!↥0,!↥0,none] ⟨none,rfl⟩ (by
   rintro p x q e I ⟨D,rfl⟩;obtain⟨_,_,_,_,d,f⟩:=S x (h.sk x (by rw[I];simp));have Y:m4 x.2.2:=mU ∅;have a:bA (p++[x])=bA p+x.2.1:=by rw[zy];simp[bA]
   have b:fx 0 (p++[x])=fx 0 p+x.2.2*(bA p+x.2.1):=by rw[tO,ig]
   rw[a,b];simp[nS,Cs,Ct,AA Y])
 refine ml (e':=[!aG ss,!.lst (iD os),!↥(fx 0 (tk ss os)),!↥(bA (tk ss os)),D]) rfl ?_;show nT [!aG ss,!.lst (iD os),none,none,none]=_;simp[nT,V,h1]
def r3(r:ei):Int:=r.getD 2 0
def srt(r:ei):ei:=[if r.getD 0 0<=r.getD 1 0 then r.getD 0 0 else r.getD 1 0,if r.getD 0 0<=r.getD 1 0 then r.getD 1 0 else r.getD 0 0]
def PS(w C:Sk->Int)(P:Int):gs->Int
 |x::y::r=>-(P+w x)*(C y-C x-y.2.1)+PS w C (P+w x) (y::r) |_=>0
theorem Cv(l:gu):(l.map λs:gs=>(s.length:Int)).sum=(l.flatten.length:Int):=by
 induction l with
 |nil=>rfl |cons a l ih=>rw[b4,f6,ih,iz,bd];lia
theorem nY(ss:gu)(U:ss.length<=1000):sw [aG ss]=↑↥(ss.flatten.length:Int):=by
 have c:=mr (te:=ij 0) (base:=[]) (λs:gs=>D.lst (s.map sD)) (λs:gs=>D.int (s.length:Int)) ss λs _=>⟨_,by simp;rfl⟩;have I:=sY (λs:gs=>(s.length:Int)) ss;have S:cE (ss.map λs=>D.lst (s.map sD)).length:=few (by rw[af];lia);rw[Cv] at I;refine ml (e':=[!aG ss]) rfl ?_;show nU [!aG ss]=_;unfold aG;generalize (ss.map λs=>D.lst (s.map sD))=L at *;simp[nU,ii,S,c,I]
variable{s:Hs}
theorem Cw{s:gs}(h:ss[a-1]?=↑s)(I:1<=a):bZ (ss.map λs=>D.lst (s.map sD)) ((a:Int)-1)=↑(.lst (s.map sD)):=by
 rw[show((a:Int)-1)=((a-1:Nat):Int) by lia];exact lr _ h
def Cy(l:List α)(k:Nat)(x:α)(h:k<l.length):l.take k++[x]++l.drop (k+1)=l.set k x:=by
 rw[kx,am h];simp
def tP(l:fh)(k:Nat)(h:k<=l.length):cutD l none ↑(k:Int)=l.take k:=by
 have:=BY (l.take k) (l.drop k);simp_all
def tQ(l:fh)(k:Nat)(h:k<=l.length):cutD l ↑(k:Int) none=l.drop k:=by
 have:=BZ (l.take k) (l.drop k);rwa [List.take_append_drop,d6,Nat.min_eq_left h] at this
theorem Cz(s:gs)(d:1<=a)(e:a<=ss.length)(f:ss.length<=1000):wu [aG ss,↥(a:Int),.lst (s.map sD)]=↑(aG (ss.set (a-1) s)):=by
 have g:(ss.map λs=>D.lst (s.map sD)).length=ss.length:=af ..;have S:=tP (ss.map λs=>D.lst (s.map sD)) (a-1) ∅;have U:=tQ (ss.map λs=>D.lst (s.map sD)) a ∅;have V:((a:Int)-1)=((a-1:Nat):Int):=by lia
 have I:=Cy (ss.map λs=>D.lst (s.map sD)) (a-1) (D.lst (s.map sD)) ∅;rw[show a-1+1=a by lia] at I;have Y:cE ((((ss.map λs=>D.lst (s.map sD)).take (a-1)).length)+(0+1)):=few (by simp only[d6];lia);have b:cE (((ss.map λs=>D.lst (s.map sD)).take (a-1)++[D.lst (s.map sD)]).length+((ss.map λs=>D.lst (s.map sD)).drop a).length):=few (by simp[d6,eo];lia);have c:aG (ss.set (a-1) s)=.lst ((ss.map λs=>D.lst (s.map sD)).set (a-1) (D.lst (s.map sD))):=by unfold aG;rw[List.map_set]
 refine ml (e':=[!aG ss,!↥(a:Int),!.lst (s.map sD)]) rfl ?_;show nV [!aG ss,!↥(a:Int),!.lst (s.map sD)]=_;rw[c,<-I];unfold aG;generalize s.map sD=M at *;simp only[nV,aM,aH,bJ,gT,hC,gS,fy,bx,aC,aB,aD,fC,bS,V,aw,ax,ae,bi,S,U,Y,b,d7,ak,di,show(0+1<=64)=True by simp]
def nZ:FS:=bL (fP (aI (aD g_ (aB 1) [:1])) (aI (aD eB (aB 1) (ij 0)))) (l6 "UnknownStack" (some)) (aT)
def xk:f4->fh->fk:=bG 2 0 2 nZ
def xj:f4->fh->et:=xQ 2 0 2 nZ
def n_:FS:=bL (fP (aI (aD g_ (aB 0) [:0])) (aI (aD eB (aB 0) [:5]))) (l6 "BadCount" ((λz=>(↑z).bind ((λz=>((vInt [:5]) z).bind ((λz=>(↑z).bind (some)))))))) (aT)
def xi:f4->fh->fk:=bG 1 0 1 n_
def xh:f4->fh->et:=xQ 1 0 1 n_
def oo:FS:=bL (fP (aI (aD g_ (aB 0) [:1])) (aI (aD eB (aB 0) [:60]))) (l6 "BadHours" ((λz=>(↑z).bind ((λz=>((vInt [:60]) z).bind ((λz=>(↑z).bind (some)))))))) (aT)
def xg:f4->fh->fk:=bG 1 0 1 oo
def xf:f4->fh->et:=xQ 1 0 1 oo
def ot:FS:=bL (fP (aI (aD g_ (aB 0) [:0])) (aI (aD eB (aB 0) [:100]))) (l6 "BadLoss" ((λz=>(↑z).bind ((λz=>((vInt [:100]) z).bind (some)))))) (aT)
def xu:f4->fh->fk:=bG 1 0 1 ot
def xt:f4->fh->et:=xQ 1 0 1 ot
def xr:FS:=bL (aI (aD jX (f8 sw (bx (aB 0) (aC))) [:14])) (l6 "HouseFull" ((λz=>((vInt [:14]) z).bind ((λz=>(↑z).bind (some)))))) (aT)
def xq:f4->fh->fk:=bG 1 0 1 xr
def sg:f4->fh->et:=xQ 1 0 1 xr
def xb:FS:=bL (aI (aD jX (ij 0) [:60])) (l6 "DeedsFull" ((λz=>((vInt [:60]) z).bind ((λz=>(↑z).bind (some)))))) (aT)
def w6:f4->fh->fk:=bG 1 0 1 xb
def sj:f4->fh->et:=xQ 1 0 1 xb
def tR:FS:=aM (aD gx [:1] (f8 hB (bx (aH (ii (dW (aB 0)) [] (aI (aD eU (aK 0 [:0]) (fC (.str "put")))) (aB 0))) (aC))))
def wy:fh->fk:=aY 1 1 tR
def xw:FS:=aE (dJ (jy xh [] (bx (aB 1) (aC))) (jx (gy xi [] (bx (aB 1) (aC))))) (aE (tm 0 "House" "kept" (fy (aC))) (tm 0 "House" "states" (fy (bx (bR (bx (aH (ii (gm eV (bx (aB 1) (aC))) [] cB (aH (fy (aC))))) (bx (aH (fy (aC))) (aC)))) (aC)))))
def uq:f4->fh->gb:=dZ 2 1 1 xw
def ou:f4->fh->Option (Str×f4):=xL 2 1 1 xw
def o0:FS:=aM (aD dV (jH (.at (.ins false "House" jf)) 0 1 (-1)) [:0])
def nk:f4->fh->fk:=bG 1 1 0 o0
def C0:f4->fh->et:=xQ 1 1 0 o0
def o3:FS:=aM (aD dV (jH (.at (.ins false "House" jf)) 0 1 (-1)) [:1])
def w5:f4->fh->fk:=bG 1 1 0 o3
def C1:f4->fh->et:=xQ 1 1 0 o3
def oA:FS:=aE (jx (qw (.at (.ins false "House" jf)) 0 0 (aB 1))) (jx (qw (.at (.ins false "House" jf)) 0 1 (bR (bx (aB 2) (bx (aB 3) (aC))))))
def ui:f4->fh->gb:=dZ 4 1 3 oA
def C2:f4->fh->Option (Str×f4):=xL 4 1 3 oA
def wt:FS:=aE (aJ 4 (fK (.ins false "House" jf) 0 (gy nk [0] (aC)))) (aE (dJ (jy xj [] (bx (aB 4) (bx (aB 1) (aC)))) (jx (gy xk [] (bx (aB 4) (bx (aB 1) (aC)))))) (aE (dJ (jy xf [] (bx (aB 2) (aC))) (jx (gy xg [] (bx (aB 2) (aC))))) (aE (dJ (jy xt [] (bx (aB 3) (aC))) (jx (gy xu [] (bx (aB 3) (aC))))) (aE (dJ (jy sg [] (bx (aB 4) (aC))) (jx (gy xq [] (bx (aB 4) (aC))))) (aE (dJ (hY true (jy sj [] (bx (pq (.ins false "House" jf) 0 0) (aC)))) (jx (fS true (gy w6 [] (bx (pq (.ins false "House" jf) 0 0) (aC)))))) (aE (aJ 5 (fS true (f8 wy (bx (pq (.ins false "House" jf) 0 0) (aC))))) (aE (aJ 6 (aH (bJ (aH (fy (bx (bR (bx (aB 5) (bx (aB 2) (bx (aB 3) (aC))))) (aC)))) (aK 4 (aD bS (aB 1) [:1]))))) (aE (jx (fK (.ins false "House" jf) 0 (mi ui [0] (bx (bR (bx (fC (.str "put")) (bx (aB 1) (bx (aB 2) (bx (aB 3) (aC)))))) (bx (f8 wu (bx (aB 4) (bx (aB 1) (bx (aB 6) (aC))))) (bx (fK (.ins false "House" jf) 0 (gy w5 [0] (aC))) (aC))))))) (aM (aB 5))))))))))
def uj:f4->fh->gb:=dZ 7 1 3 wt
def oB:f4->fh->Option (Str×f4):=xL 7 1 3 wt
def oD:FS:=aM (aH (ii (dW (fK (.ins false "House" jf) 0 (gy nk [0] (aC)))) [] cB (aH (gm mh (bx (aB 0) (aC))))))
def ul:f4->fh->fk:=bG 1 1 0 oD
def C3:f4->fh->et:=xQ 1 1 0 oD
def oE:FS:=aE (rv 3 (yx (dW (aB 0)) [] (gm mh (bx (aB 0) (aC))))) (aE (aJ 4 [:0]) (aE (bL (aI (aD eB (ij 1) [:1])) (aJ 4 (aD bS (aK 1 [:1]) [:1])) (aT)) (aE (bL (aI (aD eU (aK 1 [:0]) (fC (.str "put")))) (aE (yd 3 (aB 4) (ux false (bJ (aH (fy (bx (bR (bx (aB 2) (bx (aK 1 [:2]) (bx (aK 1 [:3]) (aC))))) (aC)))) (aK 3 (aB 4))))) (aM (aH (fy (bx (aB 3) (bx (aB 2) (aC))))))) (aT)) (aE (bL (aI (aD eU (aK 1 [:0]) (fC (.str "tell")))) (aE (aJ 5 (fS false (aD dV (aK 3 (aB 4)) (aD bS (aK 1 [:2]) [:1])))) (aE (AZ 3 (aB 4) (aD bS (aK 1 [:2]) [:1]) (bR (bx (aK 5 [:0]) (bx (aK 5 [:1]) (bx (aK 1 [:3]) (aC)))))) (aM (aH (fy (bx (aB 3) (bx (aK 5 [:2]) (aC)))))))) (aT)) (aE (bL (aI (aD eU (aK 1 [:0]) (fC (.str "dry")))) (aJ 4 (aD bS (aD dV (aD dV (f8 BL (bx (aB 0) (aC))) [:0]) [:0]) [:1])) (aT)) (aE (aJ 5 (fS false (aD dV (aK 3 (aB 4)) [:0]))) (aE (yd 3 (aB 4) (ux false (gT (aK 3 (aB 4)) (gS [:1]) (hC)))) (aM (aH (fy (bx (aB 3) (bx (aB 5) (aC)))))))))))))
def tS:fh->fk:=aY 6 3 oE
inductive cW where
 |put (a h l:Int) |tell (a p l:Int) |go (a:Int) |dry
abbrev g8:=List cW
def dD:cW->D
 | .put a h l=>.tup [.str "put",↥a,↥h,↥l]
 | .tell a p l=>.tup [.str "tell",↥a,↥p,↥l]
 | .go a=>.tup [.str "go",↥a] | .dry=>.tup [.str "dry"]
def cW.isPut:cW->Bool | .put ..=>true |_=>false
abbrev C4:=Int×Int×Int
abbrev g9:=List C4
abbrev Hs:=gu×g9
abbrev h6:=List Hs
def iK(sp:g9):D:=.lst (sp.map sD)
def jj(s:Hs):D:=.tup [aG s.1,iK s.2]
abbrev kH:AK:=.ins false "House" jf
def hP(k:g8)(s:h6):fw:=[.o (k.map dD),.o (s.map jj)]
abbrev hA(k:g8)(s:h6):Ag:=(kH,hP k s)
variable{e:DE0}{κ:AK}{l:Option Nat}{ps:fw}
def C5(h:e[i]?=↑↑(.ag κ l ps))(D:ps[j]?=↑(.o ds)):ln (.at κ) i j e=↑ds:=by
 unfold ln bW;rw[am (show Acc.ok (.at κ) e i j from(show gW κ e i from .inl ⟨_,_,h⟩)),h];dsimp;rw[D]
def tT(h:e[i]?=↑↑(.ro κ ps))(D:ps[j]?=↑(.o ds)):ln (.at κ) i j e=↑ds:=by
 unfold ln bW;rw[am (show Acc.ok (.at κ) e i j from(show gW κ e i from .inr ⟨_,h⟩)),h];dsimp;rw[D]
variable{f:FE}
def uv(h:e[i]?=↑↑(.ag κ l ps)):fK κ i f e=f e:=am (.inl ⟨_,_,h⟩)
def ya(h:e[i]?=↑↑(.ro κ ps)):fK κ i f e=f e:=am (.inr ⟨_,h⟩)
def C6{f:XF}(h:e[i]?=↑↑(.ro κ ps)):xK κ i f e=f e:=am (.inr ⟨_,h⟩)
variable{m:f4->fh->fk}{F:FA}{r:fh×DE0}
def C7(h:e[i]?=↑↑(.ro κ ps))(D:F e=↑r)(h2:r.2[i]?=↑↑(.ro κ ps)):gy m [i] F e=(m [(κ,ps)] r.1).map λd=>(d,r.2):=by
 unfold gy;rw[am (show cR e [i] from λk I=>by rw[b6.mp I];exact⟨_,h⟩),D];simp[bT,h2]
def C8(h:e[i]?=↑↑(.ag κ l ps))(D:F e=↑r)(h2:r.2[i]?=↑↑(.ag κ l ps)):gy m [i] F e=(m [(κ,ps)] r.1).map λd=>(d,r.2):=by
 unfold gy;rw[am (show cR e [i] from λk I=>by rw[b6.mp I];exact⟨_,h⟩),D];simp[bT,h2]
def tU:gy m [] F e=(F e).bind λr=>(m [] r.1).map λd=>(d,r.2):=by
 unfold gy;rw[am (show cR e [] from λk D=>nomatch D)];rfl
variable{x:Sk}
def tW{x:f4->fh->et}:jy x [] F e=(F e).bind λr=>(x [] r.1).map λd=>(d,r.2):=by
 unfold jy;rw[am (show cR e [] from λk I=>nomatch I)];rfl
variable{d:D}{ps':fw}
def C9{m:f4->fh->gb}(h:e[i]?=↑↑(.ag κ l ps))(I:F e=↑r)(h2:r.2[i]?=↑↑(.ag κ l ps))(S:m [(κ,ps)] r.1=↑(d,[(κ,ps')])):mi m [i] F e=↑(d,r.2.set i ↑(.ag κ l ps')):=by
 unfold mi;rw[am (show cR e [i] from λk U=>by rw[b6.mp U];exact⟨_,h⟩),I];simp[dI,h2,S,cD]
theorem tX(xs:fh)(x:D):bZ (xs++[x]) (-1)=↑x:=by
 unfold bZ eQ;rw[b3 (by decide),am (by simp;lia),show(-1+((xs++[x]).length:Int)).toNat=xs.length by simp;lia];simp
variable{p:h6}
def z7:nk [hA k (p++[s])] []=↑(aG s.1):=by
 unfold nk bG;have h:ln (.at kH) 0 1 (ju 1 [hA k (p++[s])] [])=↑((p++[s]).map jj):=tT (ps:=hP k (p++[s])) rfl rfl;simp[o0,jH,h,tX,jj];rfl
def CA:w5 [hA k (p++[s])] []=↑(iK s.2):=by
 unfold w5 bG;have h:ln (.at kH) 0 1 (ju 1 [hA k (p++[s])] [])=↑((p++[s]).map jj):=tT (ps:=hP k (p++[s])) rfl rfl;simp[o3,jH,h,tX,jj];rfl
theorem CB(U:s.1.length<=1000):ul [hA k (p++[s])] []=↑(aG s.1):=by
 unfold ul bG;have c:=mr (te:=aH (gm mh (bx (aB 0) (aC)))) (base:=[]) (λs:gs=>D.lst (s.map sD)) (λs:gs=>D.lst (s.map sD)) s.1 λs _=>⟨_,by simp;rfl⟩;have S:cE (s.1.map λs=>D.lst (s.map sD)).length:=few (by rw[af];lia);have I:(ju 1 [hA k (p++[s])] [])[0]?=↑↑(.ro kH (hP k (p++[s]))):=rfl;have h1:=C7 (m:=nk) (F:=aC) I (r:=([],ju 1 [hA k (p++[s])] [])) rfl I;have h2:=ya (f:=gy nk [0] aC) I;simp[z7] at h1;simp only[oD,aM,aH,ii,dW,h2,h1,ae,aG] at c ⊢;generalize (s.1.map λs=>D.lst (s.map sD))=L at *;simp[S,c]
def kE(sp:g9):Int:=match sp.getLast? with |none=>0 |some x=>x.2.1
theorem CC{a:Int}(h1:1<=a)(h2:a<=ss.length):xj [] [aG ss,↥a]=none/\xk [] [aG ss,↥a]=some .non:=by
 have e:ju 2 [] [aG ss,↥a]=[!aG ss,!↥a]:=rfl;have l:((ss.map λs=>D.lst (s.map sD)).length:Int)=ss.length:=by rw[af]
 unfold xj xk xQ bG;rw[am ⟨rfl,rfl⟩,am ⟨rfl,rfl⟩,e];unfold aG at *;generalize (ss.map λs=>D.lst (s.map sD))=L at *;simp[nZ,show ¬a<1 by lia,show ¬((L.length:Int)<a) by lia]
variable{h:Int}
theorem CF(h1:1<=h)(h2:h<=60):xf [] [↥h]=none/\xg [] [↥h]=some .non:=by
 unfold xf xg xQ bG;rw[am ⟨rfl,rfl⟩,am ⟨rfl,rfl⟩,show ju 1 [] [↥h]=[!↥h] from rfl];simp[oo,show ¬h<1 by lia,show ¬60<h by lia]
theorem CG(h1:0<=h)(h2:h<=100):xt [] [↥h]=none/\xu [] [↥h]=some .non:=by
 unfold xt xu xQ bG;rw[am ⟨rfl,rfl⟩,am ⟨rfl,rfl⟩,show ju 1 [] [↥h]=[!↥h] from rfl];simp[ot,show ¬h<0 by lia,show ¬100<h by lia]
theorem CH(h1:0<=h)(h2:h<=5):xh [] [↥h]=none/\xi [] [↥h]=some .non:=by
 unfold xh xi xQ bG;rw[am ⟨rfl,rfl⟩,am ⟨rfl,rfl⟩,show ju 1 [] [↥h]=[!↥h] from rfl];simp[n_,show ¬h<0 by lia,show ¬5<h by lia]
theorem CI(ss:gu)(D:ss.length<=1000):(if ss.flatten.length<14 then sg [] [aG ss]=none/\xq [] [aG ss]=some .non else sg [] [aG ss]=↑("HouseFull" : Str)):=by
 have h:=nY ss D;generalize ss.flatten.length=n at *;split <;> rename_i I
 ·unfold sg xq xQ bG
  rw[am ⟨rfl,rfl⟩,am ⟨rfl,rfl⟩,show ju 1 [] [aG ss]=[!aG ss] from rfl];simp[xr,h,show ¬(14:Int)<=(n:Int) by lia]
 ·unfold sg xQ
  rw[am ⟨rfl,rfl⟩,show ju 1 [] [aG ss]=[!aG ss] from rfl];simp[xr,h,show(14:Int)<=(n:Int) by lia,l6,vInt]
theorem CJ(ds:fh):(if ds.length<60 then sj [] [.lst ds]=none/\w6 [] [.lst ds]=some .non else sj [] [.lst ds]=↑("DeedsFull" : Str)):=by
 split <;> rename_i I
 ·unfold sj w6 xQ bG
  rw[am ⟨rfl,rfl⟩,am ⟨rfl,rfl⟩,show ju 1 [] [.lst ds]=[!.lst ds] from rfl];simp[xb,show ¬(60:Int)<=(ds.length:Int) by lia]
 ·unfold sj xQ
  rw[am ⟨rfl,rfl⟩,show ju 1 [] [.lst ds]=[!.lst ds] from rfl];simp[xb,show(60:Int)<=(ds.length:Int) by lia,l6,vInt]
def gw(k:g8):Int:=1+(k.filter cW.isPut).length
theorem CK(k:g8)(S:k.length<=1000):wy [.lst (k.map dD)]=↑↥(gw k):=by
 have c:=mV (tt:=aI (aD eU (aK 0 [:0]) (fC (.str "put")))) (te:=aB 0) (base:=[]) dD dD cW.isPut k λx _=>by
  cases x with
  |put a h l=>exact⟨_,rfl,λ_=>⟨_,rfl⟩⟩
  |tell a p l=>exact⟨_,rfl,λz=>nomatch z⟩
  |go a=>exact⟨_,rfl,λz=>nomatch z⟩ |dry=>exact⟨_,rfl,λz=>nomatch z⟩
 have I:cE (k.map dD).length:=few (by rw[af];lia);unfold wy aY;rw[am (show[D.lst (k.map dD)].length=1 from rfl),show jz 1 [D.lst (k.map dD)]=[!.lst (k.map dD)] from rfl];unfold gw;generalize k.map dD=L at *;simp[tR,ii,I,c]
def CL:fK κ 0 f (↑(.ag κ l ps)::e)=f (↑(.ag κ l ps)::e):=uv rfl
def oF:fK κ 0 f (↑(.ro κ ps)::e)=f (↑(.ro κ ps)::e):=ya rfl
variable{sl:Sl}
def tY:gy m [0] F (↑sl::e)=(F (↑sl::e)).bind λr=>(bT r.2 [0]).bind λags=>(m ags r.1).map λd=>(d,r.2):=am λk D=>by rw[b6.mp D];exact⟨_,rfl⟩
def CM{m:f4->fh->gb}:mi m [0] F (↑sl::e)=(F (↑sl::e)).bind λr=>(dI r.2 [0]).bind λags=>(m ags r.1).bind λq=>if q.2.map (·.1)=ags.map (·.1) then ↑(q.1,cD r.2 [0] q.2) else none:=am λk I=>by rw[b6.mp I];exact⟨_,rfl⟩
def CN:dI (↑(.ag κ l ps)::e) [0]=↑[(κ,ps)]:=rfl
def CO{D:AK}:cD (↑(.ag κ l ps)::e) [0] [(D,ps')]=↑(.ag D l ps')::e:=rfl
def CP:bT (↑(.ag κ l ps)::e) [0]=↑[(κ,ps)]:=rfl
def CQ:bT (↑(.ro κ ps)::e) [0]=↑[(κ,ps)]:=rfl
def CS:pq kH 0 0 (frz true (↑(.ag kH l (hP k p))::e))=↑(.lst (k.map dD),frz true (↑(.ag kH l (hP k p))::e)):=by
 unfold pq;rw[am (show gW kH (frz true (↑(.ag kH l (hP k p))::e)) 0 from .inr ⟨[.d (.lst (k.map dD)),.d (.lst (p.map jj))],rfl⟩)];rfl
def tZ{r:Nat}(h:e[i]?=↑↑(.ag κ ↑r ps))(I:∀c fs,κ≠.ins true c fs)(D:ps[j]?=↑(.o ds))(S:f e=↑(d,e))(U:cE (ds.length+1)) :
  qw (.at κ) i j f e=↑(.non,e.set i ↑(.ag κ ↑r (ps.set j (.o (ds++[d]))))):=by
 unfold qw;rw[h];dsimp only;rw[am (show hV κ ↑r from⟨rfl,I⟩),C5 h D,ae,S,ae];unfold iW;rw[h];dsimp only;rw[D];dsimp only;rw[am ⟨rfl,rfl,rfl,U⟩];unfold setP;rw[h]
variable{d:cW}
theorem CT{sp:g9}(D:k.length<=1000)(I:p.length<=1000):ui [hA k p] [dD d,aG ss,iK sp]=↑(.non,[hA (k++[d]) (p++[(ss,sp)])]):=by
 have h1:=tZ (e:=[↑(.ag kH ↑0 (hP k p)),!dD d,!aG ss,!iK sp]) (i:=0) (j:=0) (f:=aB 1) rfl (λc fs z=>nomatch z) rfl rfl (few (by rw[af];lia));have h2:=tZ (e:=[↑(.ag kH ↑0 ((hP k p).set 0 (.o (k.map dD++[dD d])))),!dD d,!aG ss,!iK sp]) (i:=0) (j:=1) (f:=bR (bx (aB 2) (bx (aB 3) aC))) (ds:=p.map jj) rfl (λc fs z=>nomatch z) rfl rfl (few (by rw[af];lia));unfold ui dZ;rw[am ⟨rfl,rfl⟩,show m6 4 [hA k p] [dD d,aG ss,iK sp]=[↑(.ag kH ↑0 (hP k p)),!dD d,!aG ss,!iK sp] from rfl];simp[oA,h1,h2];unfold hA hP;rw[db,db];rfl
def gQ(ss:gu)(n:Nat)(a h l:Int):et:=if a<1\/(ss.length:Int)<a then some "UnknownStack" else if h<1\/60<h then some "BadHours" else if l<0\/100<l then some "BadLoss" else if ss.flatten.length<14 then(if n<60 then none else some "DeedsFull") else some "HouseFull"
def bX(ss:gu)(a:Nat)(x:Sk):gu:=ss.set (a-1) (x::ss.getD (a-1) [])
theorem CU{l:Int}(I:gQ s.1 k.length a h l=none)(r:s.1.length<=5)(t:p.length<=100) :
  oB [hA k (p++[s])] [↥a,↥h,↥l]=none/\uj [hA k (p++[s])] [↥a,↥h,↥l]=↑(.int (gw k),[hA (k++[.put a h l]) (p++[s]++[(bX s.1 a (gw k,h,l),s.2)])]):=by
 unfold gQ at I;split at I
 ·cases I
 split at I
 ·cases I
 split at I
 ·cases I
 split at I;case isFalse=>cases I
 rename_i c;split at I;case isFalse=>cases I
 rename_i e;have k1:=CC (ss:=s.1) (a:=a) ∅ ∅;have k2:=CF (h:=h) ∅ ∅;have k3:=CG (h:=l) ∅ ∅;have b:=CI s.1 ∅;rw[am c] at b;have k5:=CJ (k.map dD);rw[am (by rw[af];exact e)] at k5;have f:=CK k ∅;have S:(a-1:Nat)<s.1.length:=by lia
 have g:bZ (s.1.map λs=>D.lst (s.map sD)) ((a:Int)-1)=↑(.lst ((s.1.getD (a-1) []).map sD)):=by
  rw[show(a:Int)-1=((a-1:Nat):Int) by lia,lr (λs:gs=>D.lst (s.map sD)) (au S),aq,au S];rfl
 have i:=Cz (ss:=s.1) (a:=a) ((gw k,h,l)::s.1.getD (a-1) []) ∅ ∅ ∅;have j:=CT (k:=k) (p:=p++[s]) (d:=.put a h l) (ss:=bX s.1 a (gw k,h,l)) (sp:=s.2) ∅ (by simp;lia);have m:=z7 (k:=k) (p:=p) (s:=s);have n:=CA (k:=k) (p:=p) (s:=s);have o:cE (0+1+((s.1.getD (a-1) []).map sD).length):=few (by
  have:(s.1.getD (a-1) []).length<=s.1.flatten.length:=by
   rw[aq,au S];exact(ff (jd S)).length_le
  rw[af];lia)
 have q:m6 7 [hA k (p++[s])] [↥a,↥h,↥l]=[↑(.ag kH ↑0 (hP k (p++[s]))),!↥a,!↥h,!↥l,none,none,none]:=rfl;have V:ui [(kH,hP k (p++[s]))] [.tup [.str "put",↥a,↥h,↥l],aG (bX s.1 a (gw k,h,l)),iK s.2]=↑(.non,[hA (k++[.put a h l]) (p++[s]++[(bX s.1 a (gw k,h,l),s.2)])]):=j;have Y:wu [aG s.1,↥a,.lst (.tup [↥(gw k),↥h,↥l]::(s.1.getD (a-1) []).map sD)]=↑(aG (bX s.1 a (gw k,h,l))):=i;have U:wt (m6 7 [hA k (p++[s])] [↥a,↥h,↥l])=↑(.rt ↥(gw k),[↑(.ag kH ↑0 (hP (k++[.put a h l]) (p++[s]++[(bX s.1 a (gw k,h,l),s.2)]))),!↥a,!↥h,!↥l,!aG s.1,!↥(gw k),!(.lst (.tup [↥(gw k),↥h,↥l]::(s.1.getD (a-1) []).map sD))]):=by
  rw[q];generalize (s.1.getD (a-1) []).map sD=TL at *;unfold aG at *;simp[wt,CL,tY,CP,m,tW,tU,k1,k2,k3,b,hY,fS,CS,k5,noL,f,g,o,CM,CN,Y,n,V,CO]
 exact⟨by unfold oB xL;rw[am ⟨rfl,rfl⟩,U],by unfold uj dZ;rw[am ⟨rfl,rfl⟩,U];rfl⟩
def bY(n:Nat):Hs:=(List.replicate n [],[])
theorem CV(b:n<=5):ou [(.ins true "House" [],[])] [↥n]=none/\uq [(.ins true "House" [],[])] [↥n]=↑(.non,[(.ins true "House" jf,hP [] [bY n])]):=by
 have k1:=CH (h:=n) ∅ ∅;have S:cE (bK 0 n).length:=few (by rw[wz];lia);have c:=mr (te:=aH (fy aC)) (base:=[]) (λi:Nat=>D.int (0+(i:Int))) (λ_:Nat=>D.lst []) (List.range n) λi _=>⟨_,rfl⟩;have U:=n9 n ∅;have V:m6 2 [(AK.ins true "House" [],[])] [↥n]=[↑(.ag (.ins true "House" []) ↑0 []),!↥n]:=rfl;have Y:(List.range n).map (λ_=>D.lst [])=(List.replicate n ([]:gs)).map λs=>D.lst (s.map sD):=by
  rw[List.map_const',fg,List.map_replicate,dq]
 have I:xw (m6 2 [(AK.ins true "House" [],[])] [↥n])=↑(.nx,[↑(.ag (.ins true "House" jf) ↑0 (hP [] [bY n])),!↥n]):=by
  rw[V];unfold bK at U S;rw[Y] at c;have a:(True/\(Str.ofString "kept")∉([]:d3)/\0<900):=⟨trivial,by simp,by decide⟩;simp only[xw,aE,dJ,tW,tU,bx,aB,aC,ax,aw,ae,k1,jn,bi,jx,tm,fy,di,gh,d7,ce,jp,bR,aH,ii,gm,U,S,c,dq,ak,show 0+1+1<=64 by decide,show 0+1<=64 by decide];rw[am a];simp only[ae,ax,aw,U,S,c,d7,bi,ak,di,show 0+1+1<=64 by decide,show 0+1<=64 by decide];rfl
 exact⟨by unfold ou xL;rw[am ⟨rfl,rfl⟩,I],by unfold uq dZ;rw[am ⟨rfl,rfl⟩,I];rfl⟩
def CW(D:n<=5)(I:F e=↑([↥n],e')):tq "House" uq F e=↑((kH,hP [] [bY n]),e'):=by
 unfold tq;rw[I,ae,(CV D).2];rfl
def CY(h:e[i]?=↑↑(.ag kH l (hP k p))):fK kH i (gy m [i] aC) e=(m [hA k p] []).map λd=>(d,e):=by
 rw[uv h];exact C8 h (r:=([],e)) rfl h
variable{m:f4->fh->gb}
def t_{d:D}(h:e[i]?=↑↑(.ag κ l ps))(I:F e=↑(ds,e))(S:m [(κ,ps)] ds=↑(d,[(κ,ps')])):mi m [i] F e=↑(d,e.set i ↑(.ag κ l ps')):=C9 h (r:=(ds,e)) I h S
def CZ(h:a-1<ss.length):(bX ss a x).flatten.Perm (x::ss.flatten):=by
 exact nW (x:=[x]) (by simp[h])
def C_(h:a-1<ss.length):(bX ss a x).flatten.length=ss.flatten.length+1:=(CZ h).length_eq
def u0:Int->g9->Prop
 |_,[]=>True |b,x::r=>x.1=b/\x.1<=x.2.1/\u0 x.2.1 r
def x9:Int->g9->Int
 |b,[]=>b |_,x::r=>x9 x.2.1 r
abbrev gB(ss:gu):List fh:=ss.map λs=>s.map sD
def Da(r:gs):noLs (r.map sD)=true:=by
 induction r with
 |nil=>rfl |cons x r ih=>rw[b4];unfold noLs;rw[ih];rfl
variable{c:Nat}
def Db{c w:Str}(h:sN c=↑w):((List.range 13).filter λk=>c==jw.getD k "").map (λk=>D.str (ly.getD k ""))=[D.str w]:=by
 have I:c∈jw:=sP (by unfold gM;rw[h];rfl);simp[jw] at I;rcases I with rfl |rfl |rfl |rfl |rfl |rfl |rfl |rfl |rfl |rfl |rfl |rfl |rfl <;> cases h <;> rfl
theorem Dc(c:Str)(d:D)(h:gM c=↑d):iZ 4 yb c d:=by
 obtain⟨w,U,rfl⟩:=cg.mp h;intro ea;have V:eV [↥13]=↑(bK 0 13):=n9 13 (by decide);have Y:∀n,n<=100->cE n=True:=λn f=>eq_true (few ∅);have I:=mV (tt:=eT (aI (aK 2 (aB 0))) (aI (bP ea 3 true))) (te:=aK 1 (aB 0)) (base:=[!.lst (ly.map D.str),!(.lst (jw.map λn=>D.bl (c==n))),!.exc ea]) (λj:Nat=>D.int (0+(j:Int))) (λk=>D.str (ly.getD k "")) (λk=>c==jw.getD k "") (List.range 13) (λk S=>by
  have S:=fq.mp S;have a:bZ (jw.map λn=>D.bl (c==n)) (0+(k:Int))=↑(.bl (c==jw.getD k "")):=by
   rw[ig,lr (λn:Str=>D.bl (c==n)) (au (show k<jw.length from S)),aq,au (show k<jw.length from S)];rfl
  have b:bZ (ly.map D.str) (0+(k:Int))=↑(.str (ly.getD k "")):=by
   rw[ig,lr D.str (au (show k<ly.length from S)),aq,au (show k<ly.length from S)];rfl
  generalize (jw.map λn=>D.bl (c==n))=KL at *;generalize ly.map D.str=WL at *;refine⟨[!↥(0+(k:Int)),!.lst WL,!.lst KL,!.exc ea],?_,λ_=>⟨_,by simp only[aK,aB,eF,aw,ax,ae,bi,b];rfl⟩⟩;generalize (c==jw.getD k "")=bb at *;cases bb <;> simp only[eT,aI,aK,aB,eF,bP,a,aw,ax,ae,bi,cw,fo,d7])
 rw[Db U] at I;have I:lp (eT (aI (aK 2 (aB 0))) (aI (bP ea 3 true))) (aK 1 (aB 0)) [!.lst (ly.map D.str),!(.lst (jw.map λn=>D.bl (c==n))),!.exc ea] (bK 0 13)=↑[D.str w]:=I;have e:(bK 0 13).length=13:=rfl;refine⟨[!.exc ea,!(.lst (jw.map λn=>D.bl (c==n))),!.lst (ly.map D.str),!.lst [.str w]],?_⟩;show yb ea c [!.exc ea,none,none,none]=_;simp[jw,ly] at I ⊢;simp[yb,bP,Y,ii,V,e,fE,I,gK]
def Dd(ss:gu)(n:Nat)(a m l:Int):et:=if a<1\/(ss.length:Int)<a then some "UnknownStack" else if (ss.getD (a.toNat-1) []).length=0 then some "EmptyStack" else if m<1\/((ss.getD (a.toNat-1) []).length:Int)<m then some "UnknownPlace" else if l<0\/100<l then some "BadLoss" else if n<60 then none else some "DeedsFull"
def De(ss:gu)(n:Nat)(a:Int):et:=if a<1\/(ss.length:Int)<a then some "UnknownStack" else if (ss.getD (a.toNat-1) []).length=0 then some "EmptyStack" else if n<60 then none else some "DeedsFull"
def oG(ss:gu)(n:Nat):et:=if 0<ss.flatten.length then(if n<60 then none else some "DeedsFull") else some "NothingWaits"
inductive Df where
 |d (x:cW) |back
def oH(ss:gu)(n:Nat):Df->et
 | .d (.put a h l)=>gQ ss n a h l
 | .d (.tell a m l)=>Dd ss n a m l
 | .d (.go a)=>De ss n a | .d .dry=>oG ss n | .back=>if n=0 then some "NothingDone" else none
section
variable {c p q:FT} {f g:FE} {u v w:FS} {e:DE0} {i:Nat} {d:D} {x y:Str} {A B:Prop} [Decidable A] [Decidable B] {a b:Int}
end
variable{x:D}
def oI{y z w:D}:bZ [x,y,z,w] 0=↑x/\bZ [x,y,z,w] 1=↑y/\bZ [x,y,z,w] 2=↑z/\bZ [x,y,z,w] 3=↑w:=⟨rfl,rfl,rfl,rfl⟩
def fG(D:F (↑(.ag kH l ps)::e)=↑(ds,↑(.ag kH l ps)::e))(I:m [(kH,ps)] ds=↑(x,[(kH,ps')])):fK kH 0 (mi m [0] F) (↑(.ag kH l ps)::e)=↑(x,↑(.ag kH l ps')::e):=by
 rw[uv (i:=0) rfl];exact t_ (i:=0) rfl D I
theorem oJ(ss:gu)(S:ss.length<=1000)(e:DE0):yx (dW (aB 0)) [] (gm mh (bx (aB 0) aC)) (⇑(aG ss)::e)=↑(gB ss,⇑(aG ss)::e):=by
 have c:=rQ (te:=gm mh (bx (aB 0) (aC))) (base:=[]) (λs:gs=>D.lst (s.map sD)) (λs:gs=>s.map sD) ss λs _=>⟨_,by simp;rfl⟩;have I:cE (ss.map λs=>D.lst (s.map sD)).length:=few (by rw[af];lia);unfold aG gB;generalize (ss.map λs=>D.lst (s.map sD))=L at *;simp[yx,I,c]
def u1(ss:gu):D.lst ((gB ss).map D.lst)=aG ss:=by unfold gB aG;rw[ib];rfl
variable{num:Int}
theorem Dg{l:Int}(U:1<=a)(g:a<=ss.length)(i:ss.length<=5)(j:(ss.getD (a-1) []).length<=1000):tS [aG ss,dD (.put a h l),↥num]=↑(.lst [aG (bX ss a (num,h,l)),↥num]):=by
 have k:=λe=>oJ ss ∅ e;have V:=oI (x:=D.str "put") (y:=.int (a:Int)) (z:=.int h) (w:=.int l);have m:((1:Int)<((0+1+1+1+1:Nat):Int))=True:=eq_true (by decide);have I:ss[a-1]?=↑(ss.getD (a-1) []):=by rw[aq,au ∅];rfl
 have n:eQ (gB ss).length ((a:Int)-1)=↑(a-1):=by
  rw[vt ∅ (by unfold gB;rw[af];lia)];congr 1;lia
 have Y:(gB ss).set (a-1) (((num,h,l)::ss.getD (a-1) []).map sD)=gB (bX ss a (num,h,l)):=by unfold bX gB;rw[List.map_set]
 have b:=Cw I U;have c:cE (0+1+((ss.getD (a-1) []).map sD).length):=few (by rw[af];lia);have d:noLs (D.tup [↥num,↥h,↥l]::(ss.getD (a-1) []).map sD)=true:=Da ((num,h,l)::ss.getD (a-1) []);have ct:ux false (bJ (aH (fy (bx (bR (bx (aB 2) (bx (aK 1 [:2]) (bx (aK 1 [:3]) (aC))))) (aC)))) (aK 3 (aB 4))) [!aG ss,!dD (.put a h l),!↥num,↑(.o2 (gB ss)),!↥((a:Int)-1),none]=↑(((num,h,l)::ss.getD (a-1) []).map sD,[!aG ss,!dD (.put a h l),!↥num,↑(.o2 (gB ss)),!↥((a:Int)-1),none]):=by
  have f:frz false [!aG ss,!dD (.put a h l),!↥num,↑(.o2 (gB ss)),!↥((a:Int)-1),none]=[!aG ss,!dD (.put a h l),!↥num,!aG ss,!↥((a:Int)-1),none]:=by
   rw[<-u1];rfl
  unfold ux;rw[f,show((num,h,l)::ss.getD (a-1) []).map sD=D.tup [↥num,↥h,↥l]::(ss.getD (a-1) []).map sD from rfl];unfold aG dD;generalize (ss.getD (a-1) []).map sD=TL at *;generalize (ss.map λs=>D.lst (s.map sD))=SL at *;simp[V,b,c,d]
 rw[<-u1 (bX ss a (num,h,l)),<-Y];suffices S:∃e',oE [!aG ss,!dD (.put a h l),!↥num,none,none,none]=↑(.rt (.lst [.lst (((gB ss).set (a-1) (((num,h,l)::ss.getD (a-1) []).map sD)).map D.lst),↥num]),e') from let ⟨_,S⟩:=S;ml rfl S;simp only[dD] at ct ⊢;simp only[oE,aE,rv,aJ,fC,ij,aK,eF,aB,aD,aI,bL,aT,eB,eU,bS,aw,ax,ae,bi,ce,cj,ak,di,decide_true,d7,aM,aH,fy,bx,aC,yd,hZ,k8,b4,dq, *];exact⟨_,rfl⟩
structure SI (n i:Nat) (s:Hs):Prop where
 len:s.1.length=n
 few:s.1.flatten.length<=14
 good:∀x∈s.1.flatten,jt x
 chain:u0 0 s.2
 rate:∀x∈s.2,0<=x.2.2/\x.2.2<=100000
 sp:s.2.length<=i
 hour:x9 0 s.2<=60*s.2.length
def oK(k:g8)(s:Hs)(d:cW)(s':Hs):Prop:=oH s.1 k.length (.d d)=none/\∃D,tS [aG s.1,dD d,↥(gw k)]=↑(.lst [aG s'.1,D])/\match d with | .dry=>∃x:Sk,D=sD x/\s'.2=s.2++[(kE s.2,kE s.2+x.2.1,bM s.1.flatten)] |_=>s'.2=s.2
structure HI (n:Nat) (k:g8) (p:h6) (s:Hs):Prop where
 n5:n<=5
 k60:k.length<=60
 kp:p.length=k.length
 all:∀i t,(p++[s])[i]?=↑t->SI n i t
 st0:(p++[s])[0]?=↑(bY n)
 tr:∀i d t t',k[i]?=↑d->(p++[s])[i]?=↑t->(p++[s])[i+1]?=↑t'->oK (k.take i) t d t'
def HI.at(h:HI n k p s):SI n k.length s:=h.all k.length s (by rw[<-h.kp];simp)
def u2{α:Type}:∀(ss:List (List α)) (i:Nat) (t t':List α),ss[i]?=↑t->∃A B,ss.flatten=A++(t++B)/\(ss.set i t').flatten=A++(t'++B)
 |y::r,0,t,t',h=>by
   simp at h;subst h;exact⟨[],r.flatten,rfl,rfl⟩
 |y::r,i+1,t,t',h=>by
   obtain⟨A,B,h1,h2⟩:=u2 r i t t' (by simpa using h);exact⟨y++A,B,by simp[h1],by simp[h2]⟩
theorem HI.push{s':Hs}(h:HI n k p s)(Y:k.length<60)(U:SI n (k.length+1) s')(st:oK k s d s'):HI n (k++[d]) (p++[s]) s':=by
 have V:(p++[s]).length=k.length+1:=by simp[h.kp]
 have lt:∀i,i<=k.length->(p++[s]++[s'])[i]?=(p++[s])[i]?:=λi c=>ao ∅;have S:(p++[s]++[s'])[k.length+1]?=↑s':=by rw[<-V,ie]
 refine⟨h.n5,by simp;lia,by simp[h.kp],λi t D=>?_,by rw[lt 0 ∅];exact h.st0,λi d' t t' h1 h2 I=>?_⟩
 ·by_cases c:i<=k.length
  ·exact h.all i t (lt i c ▸ D)
  ·obtain rfl:i=k.length+1:=by have:=(ah.mp D).1;simp[h.kp] at this;lia
   rw[S] at D;cases D;exact U
 ·by_cases c:i<k.length
  ·rw[my ∅]
   exact h.tr i d' t t' (by rwa [ao c] at h1) (by rwa [lt i ∅] at h2) (by rwa [lt _ c] at I)
  ·obtain rfl:i=k.length:=by have:=(ah.mp h1).1;simp at this;lia
   rw[ie] at h1;rw[lt _ (bn _),<-h.kp,ie] at h2;rw[S] at I;cases h1;cases h2;cases I;rw[List.take_left];exact st
theorem SI.swap{t t':gs}(h:SI n i s)(I:s.1[a]?=↑t)(S:s.1.flatten.length+t'.length<=14+t.length)(U:∀x∈t',(∀y∈t,jt y)->jt x):SI n (i+1) (s.1.set a t',s.2):=by
 obtain⟨A,B,h1,h2⟩:=u2 s.1 a t t' I;have g:=h.good;rw[h1] at g S;refine⟨by rw[de];exact h.len,?_,?_,h.chain,h.rate,lj h.sp,h.hour⟩
 ·show(s.1.set a t').flatten.length<=14
  rw[h2];simp at *
  lia
 ·intro x D
  rw[h2,dh,dh] at D;rcases D with q |q |q
  ·exact g x (by simp[q])
  ·exact U x q λy V=>g y (by simp[V])
  ·exact g x (by simp[q])
theorem Dh(k:g8):1<=gw k/\gw k<=k.length+1:=by
 unfold gw;have:=List.length_filter_le cW.isPut k
 lia
def HI.l5(hi:HI n k p s):s.1.length<=5:=by rw[hi.at.len];exact hi.n5
def HI.new(D:n<=5):HI n [] [] (bY n) :=
 ⟨D,by simp,rfl,λi t h=>by
  have e:i=0/\t=bY n:=by
   cases i with
   |zero=>simp at h;exact⟨rfl,h.symm⟩ |succ m=>simp at h
  obtain⟨rfl,rfl⟩:=e;have z:(bY n).1.flatten=[]:=by simp[bY]
  exact⟨by simp[bY],by rw[z];simp,by rw[z];simp,trivial,λx h=>by simp[bY] at h,by simp[bY],by simp[bY,x9]⟩,rfl,λi d t t' h=>by simp at h⟩
def gC(ts:g7):gs:=(ts.map (·.2)).flatten
abbrev eL:=Nat×Sk
def col(c:Nat)(L:List eL):gs:=(L.filter λe=>e.1==c).map (·.2)
def non(a:Nat)(L:List eL):gs:=(L.filter λe=>not (e.1==a)).map (·.2)
def pj(c:Nat)(x:Sk)(L:List eL):col c ((c,x)::L)=x::col c L:=by simp[col]
variable{d:Nat}
def oz(h:d≠c)(x:Sk)(L:List eL):col c ((d,x)::L)=col c L:=by simp[col,h]
def oM(c:Nat)(x:Sk)(L:List eL):non c ((c,x)::L)=non c L:=by simp[non]
def wm(h:d≠c)(x:Sk)(L:List eL):non c ((d,x)::L)=x::non c L:=by simp[non,h]
def u3(c:Nat)(A B:List eL):col c (A++B)=col c A++col c B:=by simp[col]
theorem uA(d:Int):∀(X:gs) (h:Int),fx (h+d) X=fx h X+d*bM X
 | [],h=>by simp[fx,bM] |x::X,h=>by
   rw[fx,fx,show h+d+x.2.1=h+x.2.1+d by lia,uA d X,ng]
   lia
def qc(h:Int)(X:gs):fx h X=fx 0 X+h*bM X:=by
 have:=uA h X 0;rwa [ig] at this
def uh:∀(A B:gs) (h:Int),fx h (A++B)=fx h A+fx (h+bA A) B
 | [],B,h=>by simp[fx,bA] |x::A,B,h=>by
   rw[dm,fx,fx,uh A B,ma,tf h,tf]
def dC(a:Nat):Nat->List eL->List eL
 |0,L=>L |_+1,[]=>[] |n+1,e::L=>if e.1=a then dC a n L else e::dC a (n+1) L
def zj(a:Nat):∀(L:List eL) (n:Nat),col a (dC a n L)=(col a L).drop n
 | [],0=>rfl | [],n+1=>rfl |e::L,0=>rfl | (d,x)::L,n+1=>by
   by_cases h:d=a
   ·subst h
    rw[dC,am rfl,zj d L n,pj,List.drop_succ_cons]
   ·rw[dC,b3 h,oz h,oz h]
    exact zj a L (n+1)
def vh{a c:Nat}(D:c≠a):∀(L:List eL) (n:Nat),col c (dC a n L)=col c L
 | [],0=>rfl | [],n+1=>rfl |e::L,0=>rfl | (d,x)::L,n+1=>by
   by_cases h:d=a
   ·subst h
    rw[dC,am rfl,vh D L n,oz (Ne.symm D)]
   ·rw[dC,b3 h]
    by_cases hd:d=c
    ·subst hd;rw[pj,pj,vh D L (n+1)]
    ·rw[oz hd,oz hd,vh D L (n+1)]
theorem t6(a:Nat):∀(L:List eL) (r:gs),(∃t,col a L=r++t)->bM (L.map (·.2))=bM r+bM ((dC a r.length L).map (·.2))/\bA (L.map (·.2))=bA r+bA ((dC a r.length L).map (·.2))
 |L,[],_=>by cases L <;> simp[dC,bM,bA]
 | [],x::r,⟨t,ht⟩=>by simp[col] at ht | (d,y)::L,x::r,⟨t,ht⟩=>by
   by_cases h:d=a
   ·subst h
    rw[pj,dm] at ht;obtain⟨e,D⟩:=List.cons.inj ht;subst e;obtain⟨h1,h2⟩:=t6 d L r ⟨t,D⟩;rw[ak,dC,am rfl,b4,ng,ma,ng,ma,h1,h2];exact⟨by lia,by lia⟩
   ·rw[oz h] at ht
    obtain⟨h1,h2⟩:=t6 a L (x::r) ⟨t,ht⟩;rw[ak] at h1 h2;rw[ak,dC,b3 h,b4,b4,ng,ma,ng (r:=List.map _ _),ma (r:=List.map _ _),h1,h2];exact⟨by lia,by lia⟩
theorem yg(a:Nat)(W P:Int)(hP:0<P):∀(L:List eL) (r:gs) (G:Int),(∃t,col a L=r++t)->(∀e∈L,0<=e.2.2.1)->(∀u t,r=u++t->0<=P*bM t-W*bA t)->(∀q t,L=q++t->0<=G+(W*bA (non a q)-P*bM (non a q))) ->
  0<=P*(fx 0 (L.map (·.2))-fx 0 (r++(dC a r.length L).map (·.2)))+bA r*G
 |L,[],G,_,_,_,_=>by cases L <;> simp[dC,bA]
 | [],x::r,G,⟨t,ht⟩,_,_,_=>by simp[col] at ht | (d,y)::L,x::r,G,⟨t,ht⟩,hx,hs,hG=>by
   have c:0<=G:=by
    have:=hG [] _ rfl;simpa[non,bA,bM] using this
   have Y:0<=y.2.1:=hx _ ay;by_cases h:d=a
   ·subst h
    rw[pj,dm] at ht;obtain⟨e,D⟩:=List.cons.inj ht;subst e;have I:=yg d W P hP L r G ⟨t,D⟩ (λz U=>hx z (ai _ U)) (λu v e=>hs (y::u) v (by rw[e];rfl)) (λq v e=>by
     have:=hG ((d,y)::q) v (by rw[e];rfl);rwa [oM] at this)
    have m:=Int.mul_nonneg Y c;have S:=(t6 d L r ⟨t,D⟩).1;have f:bM (r++(dC d r.length L).map (·.2))=bM (L.map (·.2)):=by rw[vq,S]
    rw[ak,dC,am rfl,b4,dm,fx,fx,qc (0+y.2.1) (L.map (·.2)),qc (0+y.2.1) (r++(dC d r.length L).map (·.2)),f,ma];generalize fx 0 (L.map (·.2))=c1 at *;generalize fx 0 (r++(dC d r.length L).map (·.2))=c2 at *;generalize bM (L.map (·.2))=c3 at *;have V:P*((d,y).2.2.2*(0+(d,y).2.2.1)+(c1+(0+y.2.1)*c3)-(y.2.2*(0+y.2.1)+(c2+(0+y.2.1)*c3)))+(y.2.1+bA r)*G=(P*(c1-c2)+bA r*G)+y.2.1*G:=by dsimp only;grind
    rw[V]
    lia
   ·rw[oz h] at ht
    have I:=yg a W P hP L (x::r) (G+(W*y.2.1-P*y.2.2)) ⟨t,ht⟩ (λz U=>hx z (ai _ U)) hs (λq v e=>by
     have:=hG ((d,y)::q) v (by rw[e];rfl);rw[wm h,ma,ng,j5,j5] at this
     lia)
    have S:=(t6 a L (x::r) ⟨t,ht⟩).1;have g:=hs [] (x::r) rfl;rw[ak] at I S;rw[ak,dC,b3 h,b4,b4];generalize x::r=b at *;rw[uh] at I;rw[uh,fx,fx,qc (0+_) (L.map (·.2)),S,qc (0+bA b+_)];rw[qc (0+bA b)] at I;generalize fx 0 (L.map (·.2))=c1 at *;generalize fx 0 b=c2 at *;generalize bM ((dC a (r.length+1) L).map (·.2))=c3 at *;generalize fx 0 ((dC a (r.length+1) L).map (·.2))=c4 at *;have m:=Int.mul_nonneg Y g
    lia
theorem uB{a c:Nat}(I:c≠a):∀q:List eL,bA (non a q)=bA (col c q)+bA (non a (q.filter λe=>not (e.1==c)))/\bM (non a q)=bM (col c q)+bM (non a (q.filter λe=>not (e.1==c)))
 | []=>by simp[non,col,bA,bM] | (d,y)::q=>by
   obtain⟨h1,h2⟩:=uB I q;by_cases hd:d=c
   ·subst hd
    rw[wm I,pj,uu ⋯,ma,ma,ng,ng,h1,h2];exact⟨by lia,by lia⟩
   ·rw[oz hd,ut (by simp[hd])]
    by_cases D:d=a
    ·subst D
     rw[oM,oM];exact⟨h1,h2⟩
    ·rw[wm D,wm D,ma,ma,ng,ng,h1,h2]
     exact⟨by lia,by lia⟩
theorem uC(a:Nat)(W P:Int):∀(n:Nat) (q:List eL),q.length<=n->(∀c,c≠a->0<=W*bA (col c q)-P*bM (col c q))->0<=W*bA (non a q)-P*bM (non a q)
 |0,q,hq,_=>by
   rw[mz (Nat.le_zero.mp hq)];simp[non,bA,bM]
 |n+1,q,hq,h=>by
   by_cases D:∃e∈q,e.1≠a
   ·obtain⟨⟨c,y⟩,S,I⟩:=D
    have I:c≠a:=I;obtain⟨h1,h2⟩:=uB I q;have U:(q.filter λe=>not (e.1==c)).length<q.length:=by
     rw[List.length_filter_lt_length_iff_exists];exact⟨_,S,by simp⟩
    have V:=uC a W P n (q.filter λe=>not (e.1==c)) ∅ (λd hd=>by
     by_cases e:d=c
     ·subst e
      rw[show col d (q.filter λe=>not (e.1==d))=[] by unfold col;rw[List.filter_filter,gz,gj];intro z _;simp];simp[bA,bM]
     ·rw[show col d (q.filter λe=>not (e.1==c))=col d q by
       unfold col;rw[List.filter_filter];congr 1;apply List.filter_congr;intro z _;by_cases D:z.1=d
       ·simp[D,e]
       ·simp[D]]
      exact h d hd)
    have Y:=h c I;rw[h1,h2,j5,j5]
    lia
   ·have:non a q=[]:=by
     unfold non;rw[gz,gj]
     grind
    rw[this];simp[bA,bM]
theorem uD{b:gs}(D:0<bA b):∀(bs:gu) (X:gs),(∀u∈bs,Good u/\(∀x∈u,jt x)/\bM u*bA b<=bM b*bA u)->X <+: bs.flatten->bM X*bA b<=bM b*bA X
 | [],X,_,h=>by
   rw[List.flatten_nil,List.prefix_nil] at h;subst h;simp[bA,bM]
 |u::bs,X,hb,h=>by
   obtain⟨I,S,U⟩:=hb u ay;rw[iz] at h;rcases sX h with z | ⟨t,e,ht⟩
   ·have h1:=I.beg X z
    have c:=sW u S I.ne;have V:0<=bA X:=BS X λx Y=>S x (z.subset Y);have d:=mf h1 (Int.le_of_lt D);have f:=mf U V;have g:bM X*bA b*bA u<=bM b*bA X*bA u:=by
     lia
    simp_all
   ·subst e
    have i:=uD D bs t (λv a=>hb v (ai _ a)) ht;rw[vq,zy,Int.add_mul,j5]
    lia
def ik(ts:g7)(c:Nat):gs:=((ts.filter λt=>t.1==c).map (·.2)).flatten
theorem uE:∀(ts:g7) (L:List eL),ts.Pairwise tp->(∀t∈ts,Good t.2)->(∀t∈ts,∀x∈t.2,jt x)->(∀e∈L,jt e.2)->(∀c,col c L=ik ts c)->fx 0 (gC ts)<=fx 0 (L.map (·.2))/\bM (gC ts)=bM (L.map (·.2))
 | [],L,_,_,_,_,h=>by
   cases L with
   |nil=>exact⟨Int.le_refl _,rfl⟩ |cons e L =>
     have:=h e.1;rw[show e=(e.1,e.2) from rfl,pj] at this;simp[ik] at this
 | (a,b)::ts,L,srt,hg,hs,hL,h=>by
   have f:=List.pairwise_cons.mp srt;have g:Good b:=hg (a,b) ay;have k:∀x∈b,jt x:=hs (a,b) ay;have U:=sW b k g.ne;have V:col a L=b++ik ts a:=by rw[h a];simp[ik]
   have S:∀c,c≠a->col c L=ik ts c:=λc Y=>by rw[h c];simp[ik,Ne.symm Y]
   have d:∀e∈dC a b.length L,jt e.2:=λe I=>by
    have:∀(L:List eL) (n:Nat),∀e∈dC a n L,e∈L:=λL=>by
     induction L with
     |nil=>intro n e I;cases n <;> simpa[dC] using I
     |cons z L ih =>
       intro n e I;cases n with
       |zero=>exact I |succ n =>
         rw[dC] at I
         grind
    exact hL e (this _ _ _ I)
   obtain⟨w,i⟩:=uE ts (dC a b.length L) f.2 (λt D=>hg t (ai _ D)) (λt D=>hs t (ai _ D)) d (λc=>by
    by_cases e:c=a
    ·subst e;rw[zj,V,List.drop_left]
    ·rw[vh e,S c e])
   obtain⟨l,_⟩:=t6 a L b ⟨_,V⟩;have m:=yg a (bM b) (bA b) U L b 0 ⟨_,V⟩ (λe I=>by have:=hL e I;unfold jt at this;lia) (λu t e=>by
    have h1:=g.beg u ⟨t,e.symm⟩;have y:bM b=bM u+bM t:=by rw[e,vq]
    have A:bA b=bA u+bA t:=by rw[e,zy]
    generalize bM b=lb at *;generalize bA b=hb at *;rw[show bM t=lb-bM u by lia,show bA t=hb-bA u by lia,Int.mul_sub,Int.mul_sub,Int.mul_comm hb lb,Int.mul_comm hb]
    lia) (λq t e=>by
    rw[ig];refine uC a _ _ q.length q (bn _) λc Y=>?_;have o:col c q <+: ik ts c:=by rw[<-S c Y,e,u3];exact List.prefix_append _ _
    have:=uD U _ (col c q) (λu p=>by
     obtain⟨t,D,r⟩:=dn.mp p;have D:=(jq.mp D).1;subst r;refine⟨hg t (ai _ D),hs t (ai _ D),?_⟩;have s:=f.1 t D;rcases s with z |z
     ·exact Int.le_of_lt z
     ·exact Int.not_lt.mp z.1) o
    rw[Int.mul_comm (bA b)]
    lia)
   rw[Int.mul_zero,Int.add_zero] at m;have j:fx 0 (b++(dC a b.length L).map (·.2))<=fx 0 (L.map (·.2)):=by
    by_cases z:fx 0 (b++(dC a b.length L).map (·.2))<=fx 0 (L.map (·.2))
    ·exact z
    ·have:=Int.mul_neg_of_pos_of_neg U (show fx 0 (L.map (·.2))-fx 0 (b++(dC a b.length L).map (·.2))<0 by lia)
     lia
   have v:gC ((a,b)::ts)=b++gC ts:=rfl;rw[v];refine⟨?_,by rw[vq,l,i]⟩;rw[uh,qc (0+bA b)];rw[uh,qc (0+bA b)] at j;rw[<-i] at j
   lia
def Di(S:aZ ss os){s:gs}(U:ss[j]?=↑s):∀p q:ee,os=p++q->col (j+1) (p.zip (tk ss p))=s.take (p.count (j+1)):=by
 apply tJ
 ·intro q _
  rfl
 ·intro p a V q D
  rw[c8,List.singleton_append] at D;have h1:=V (a::q) D;rw[zl,List.zip_append (by rw[yu]),u3,h1,List.count_append,show List.zip [a] [oj ss a (p.count a)]=[(a,oj ss a (p.count a))] from rfl];by_cases e:a=j+1
  ·subst e
   obtain⟨s',I,b,Y,_⟩:=aZ.at (p:=p) (q:=q) (a:=j+1) (Eq.subst (motive:=λo=>aZ ss o) D S);rw[Nat.add_sub_cancel,U] at I;cases I;rw[pj,show List.count (j+1) [j+1]=1 by simp,List.take_add_one,Y];rfl
  ·rw[oz e,show List.count (j+1) [a]=0 by simp[List.count_singleton,e],Nat.add_zero]
   exact cr _
theorem uF(ok:bQ ss ts)(U:∀x∈ss.flatten,jt x)(D:aZ ss os):fx 0 (gC ts)<=fx 0 (tk ss os):=by
 have V:(os.zip (tk ss os)).map (·.2)=tk ss os:=by rw[me];rw[yu];exact bn _
 have:=(uE ts (os.zip (tk ss os)) ok.srt ok.good (ok.sk U) (λe I=>U _ (D.sk _ (by rw[<-V];exact List.mem_map_of_mem I))) (λc=>by
  by_cases h:∃j s,c=j+1/\ss[j]?=↑s
  ·obtain⟨j,s,e,S⟩:=h
   subst e;rw[Di D S os [] (cr _).symm,D.cnt j s S,List.take_length];exact(ok.part j s S).symm
  ·have d:c=0\/ss.length<c:=by
    cases c with
    |zero=>exact .inl rfl |succ j =>
      by_cases f:j<ss.length
      ·simp_all
      ·exact .inr ∅
   have Y:col c (os.zip (tk ss os))=[]:=by
    unfold col;rw[gz,gj];intro e I;have:=D.lo e.1 (f9 I).1;simp
    lia
   have a:ik ts c=[]:=by
    unfold ik;rw[gj.mpr λt b=>by have:=ok.lo t b;simp;lia];rfl
   rw[Y,a])).1
 rwa [V] at this
def stk(ss:gu)(c:Nat):gs:=if c=0 then[] else ss.getD (c-1) []
def chg(a:Nat)(l:Int):Nat->List eL->List eL
 |_,[]=>[] |n,e::L=>if e.1=a then(match n with |0=>(e.1,(e.2.1,e.2.2.1,l))::L |n+1=>e::chg a l n L) else e::chg a l n L
def chgN(h:d≠a)(l:Int)(x:Sk)(L:List eL)(n:Nat):chg a l n ((d,x)::L)=(d,x)::chg a l n L:=by cases n <;> simp[chg,h]
def hd(t:Tn):Int:=(t.2.headD (0,0,0)).1
theorem Dj{ts:List α}{p q:List (α×Nat)}{x:α×Nat}(h:ts.zipIdx 0=p++x::q):∃hi:p.length<ts.length,x=(ts[p.length],p.length):=by
 have e:(ts.zipIdx 0)[p.length]?=↑x:=by rw[h];simp
 rw[List.getElem?_zipIdx] at e;have hi:p.length<ts.length:=by
  by_cases z:p.length<ts.length
  ·exact z
  ·rw[dg ∅] at e;cases e
 rw[au hi] at e;refine⟨hi,?_⟩;simpa using(bg e).symm
def beg(T:gs)(n:Int):Int:=bA (T.takeWhile λx=>not (x.1==n))
abbrev Rn:=Bool×Int×Int×Int×Int
def rD(r:Rn):D:=.tup [.str (if r.1 then "turned" else "parted"),↥r.2.1,↥r.2.2.1,↥r.2.2.2.1,↥r.2.2.2.2]
inductive iA (N:Int):List Rn->Int->Prop
 |nil:iA N [] 0
 |cons {r:Rn} {l:List Rn} {v V:Int}:N*r.2.2.2.1=v*r.2.2.2.2->iA N l V->iA N (r::l) (v+V)
def oN(S:gs)(r:Rn):Prop:=r.2.1∈S.map (·.1)/\r.2.2.1∈S.map (·.1)/\1<=r.2.2.2.1/\1<=r.2.2.2.2/\r.2.2.2.2<=705600
def kF(S:gs)(N:Int)(l:fh)(V:Int):Prop:=∃I:List Rn,l=I.map rD/\(∀r∈I,oN S r)/\iA N I V
def kF.nil(S:gs)(N:Int):kF S N [] 0:=⟨[],rfl,λr h=>absurd h gp,.nil⟩
def kG(h w:ee):Prop:=(∀a∈w,1<=a/\a<=h.length)/\∀j,j<h.length->w.count (j+1)=h.getD j 0
def dE(h:ee)(j:Nat):ee:=h.set j (h.getD j 0-1)
def qb(h:ee)(j:Nat):(dE h j).length=h.length:=by unfold dE;simp
def uG(h:ee)(j i:Nat)(D:j<h.length):(dE h j).getD i 0=if i=j then h.getD j 0-1 else h.getD i 0:=by
 unfold dE;rw[aq,iy];by_cases e:j=i
 ·subst e
  rw[am rfl,am D,am rfl];rfl
 ·rw[b3 e,b3 (λq=>e q.symm),aq]
theorem nc:∀(h:ee) (j:Nat),0<h.getD j 0->(dE h j).sum+1=h.sum
 | [],j,q=>by simp at q |a::h,0,q=>by
   simp[dE] at q ⊢
   lia
 |a::h,j+1,q=>by
   have D:=nc h j (by simpa using q);unfold dE at D ⊢;simp at D ⊢
   lia
def cX:Nat->ee->List ee
 |0,_=>[] |f+1,h=>if h.sum=0 then[[]] else((List.range h.length).map λj=>if 0<h.getD j 0 then(cX f (dE h j)).map ((j+1)::·) else[]).flatten
variable{h:ee}
theorem Dk(S:h.sum=0)(w:ee):kG h w↔w=[]:=by
 have I:∀j,h.getD j 0=0:=λj=>by
  by_cases D:j<h.length
  ·rw[aq,au D]
   exact gf.mp S _ (jd D)
  ·rw[aq,dg ∅];rfl
 constructor
 ·intro q
  cases w with
  |nil=>rfl |cons a w =>
    have l:=q.1 a ay;have c:=q.2 (a-1) ∅;rw[I,show a-1+1=a by lia,gr] at c
    lia
 ·intro e
  subst e;exact⟨λa U=>absurd U gp,λj D=>by rw[I];rfl⟩
theorem uH{w:ee}(I:j<h.length):kG h ((j+1)::w)↔0<h.getD j 0/\kG (dE h j) w:=by
 constructor
 ·intro q
  have c:=q.2 j I;rw[gr] at c;refine⟨by lia,λa ha=>by rw[qb];exact q.1 a (ai _ ha),λi hi=>?_⟩;rw[qb] at hi;rw[uG h j i I];have D:=q.2 i hi;by_cases e:i=j
  ·subst e;rw[am rfl];lia
  ·rw[b3 e,<-D,List.count_cons_of_ne ∅]
 ·intro⟨p,q⟩
  refine⟨λa ha=>?_,λi hi=>?_⟩
  ·rcases bz.mp ha with e |ha
   ·subst e;exact⟨by lia,by lia⟩
   ·have:=q.1 a ha;rw[qb] at this;exact this
  ·have D:=q.2 i (by rw[qb];exact hi)
   rw[uG h j i I] at D;by_cases e:i=j
   ·subst e;rw[am rfl] at D;rw[gr,D];lia
   ·rw[b3 e] at D;rw[List.count_cons_of_ne ∅,D]
theorem zi:∀(f:Nat) (h:ee),h.sum<f->∀w,w∈cX f h↔kG h w
 |0,_,q,_=>by lia |f+1,h,q,w=>by
   unfold cX;by_cases I:h.sum=0
   ·rw[am I,Dk I,b6]
   ·rw[b3 I,gq]
    constructor
    ·rintro⟨l,V,U⟩
     obtain⟨j,D,rfl⟩:=dn.mp V;have D:=fq.mp D;split at U
     ·rename_i p
      obtain⟨v,Y,rfl⟩:=dn.mp U;have b:=nc h j p;exact(uH D).mpr ⟨p,(zi f (dE h j) ∅ v).mp Y⟩
     ·exact absurd U gp
    ·intro S
     cases w with
     |nil =>
       exfalso;apply I;rw[gf];intro a c;obtain⟨j,D⟩:=List.mem_iff_getElem?.mp c;have:=S.2 j (ah.mp D).1;rw[aq,D] at this;simpa using this.symm
     |cons a v =>
       have l:=S.1 a ay;have e:a-1+1=a:=by lia
       rw[<-e] at S;obtain⟨p,d⟩:=(uH ∅).mp S;have b:=nc h (a-1) p;refine⟨_,dn.mpr ⟨a-1,fq.mpr ∅,rfl⟩,?_⟩;rw[am p];exact dn.mpr ⟨v,(zi f _ ∅ v).mpr d,by rw[e]⟩
structure St (l:ei) (w m s:Int):Prop where
 w:w=l.length
 e:l=[]->m=-1/\s=0
 n:l≠[]->m∈l/\(∀x∈l,m<=x)/\s=l.count m
def St.nil:St [] 0 (-1) 0:=⟨rfl,λ_=>⟨rfl,rfl⟩,λh=>absurd rfl h⟩
def St.perm{l D:ei}{w m s:Int}(h:St l w m s)(p:l.Perm D):St D w m s :=
 ⟨by rw[<-p.length_eq];exact h.w,λe=>h.e (by subst e;exact List.perm_nil.mp p),λn=>by
  obtain⟨h1,h2,I⟩:=h.n λe=>n (by subst e;exact List.nil_perm.mp p);exact⟨p.mem_iff.mp h1,λx S=>h2 x (p.mem_iff.mpr S),by rw[<-p.count_eq];exact I⟩⟩
end LB
namespace SQ
open PySem L2 LB
def sx(m:fh->fk):FS:=bL (aI (aD eB (aB 3) [:0])) (aE (aJ 4 (aH (bJ (aH (bJ (aH (gT (aB 0) (hC) (gS (aB 2)))) (aH (fy (bx (aD bS (aB 3) [:1]) (aC)))))) (aH (gT (aB 0) (gS (aD gx (aB 2) [:1])) (hC)))))) (jx (vk 1 (ii (dW (f8 m (bx (aB 4) (aC)))) [2] cB (aH (bJ (aH (fy (bx (aD gx (aB 1) [:1]) (aC)))) (aB 0))))))) (aT)
def mx(m:fh->fk):FS:=aE (bL (aI (aD eU (f8 fD (bx (aB 0) (aC))) [:0])) (aM (aH (fy (bx (aH (fy (aC))) (aC))))) (aT)) (aE (dR 1 (fy (aC))) (aE (yr [2,3] (gm (jF 0) (bx (aB 0) (aC))) ((sx m))) (aM (aB 1))))
def oO:fh->fk:=dO 5 1 mx 9
def wx:FS:=aE (bL (aI (aD eB (f8 sw (bx (aB 0) (aC))) [:7])) (l6 "TooManyOrders" ((λz=>(↑z).bind ((λz=>((vInt [:7]) z).bind ((λz=>(↑z).bind (some)))))))) (aT)) (aM (f8 oO (bx (aH (ii (dW (aB 0)) [] cB (ij 0))) (aC))))
def qh:f4->fh->fk:=bG 1 0 1 wx
def mv:f4->fh->et:=xQ 1 0 1 wx
def xm:FS:=aE (dJ (jy mv [] (bx (aB 0) (aC))) (aJ 1 (aH (ii (dW (gy qh [] (bx (aB 0) (aC)))) [0] cB (f8 wv (bx (aB 1) (bx (aB 0) (aC)))))))) (aE (aJ 2 (f8 qj (bx (aB 1) (aC)))) (aM (bR (bx (ij 1) (bx (aB 2) (bx (aD p9 (aB 1) (aB 2)) (aC)))))))
def mw:f4->fh->fk:=bG 3 0 1 xm
def ku:f4->fh->et:=xQ 3 0 1 xm
def oP:FS:=dJ (jy ku [] (bx (fK (.ins false "House" jf) 0 (gy nk [0] (aC))) (aC))) (aM (gy mw [] (bx (fK (.ins false "House" jf) 0 (gy nk [0] (aC))) (aC))))
def uo:f4->fh->fk:=bG 1 1 0 oP
def um:f4->fh->et:=xQ 1 1 0 oP
def wq:FS:=aE (bL (aI (aD eU (aB 0) [:0])) (dJ (jy mv [] (bx (aB 1) (aC))) (aM (dN "list" (gy qh [] (bx (aB 1) (aC)))))) (aT)) (aE (bL (aI (aD eU (aB 0) [:1])) (dJ (jy ku [] (bx (aB 1) (aC))) (aM (dN "tuple" (gy mw [] (bx (aB 1) (aC)))))) (aT)) (dJ (xK (.ins false "House" jf) 2 (jy um [2] (aC))) (aM (dN "tuple" (fK (.ins false "House" jf) 2 (gy uo [2] (aC)))))))
def sf:f4->fh->fk:=eX 3 1 2 wq
def nn:f4->fh->et:=xR 3 1 2 wq
def xv:FS:=aE (aJ 3 (bR (bx (fC (.str "refused")) (bx (fC (.str "")) (aC))))) (aE (gL (dJ (qi (fC (.str "told")) (p8 nn [2] (bx (aB 0) (bx (aB 1) (aC))))) (aM (bR (bx (fC (.str "told")) (bx (o8 sf [2] (bx (aB 0) (bx (aB 1) (aC)))) (aC)))))) 4 3 gM) (aM (aB 3)))
def nj:f4->fh->fk:=eX 5 1 2 xv
def Dl:f4->fh->et:=xR 5 1 2 xv
def t5:FS:=aE (aJ 7 (aK 1 (aD gx [:1] (aB 6)))) (aE (aJ 8 (bR (bx (aD gx (aB 6) [:1]) (bx (aD gx [:1] (aD bH (aB 7) [:60])) (bx (aD bH (aD cV (aB 7) [:60]) [:101]) (aC)))))) (aE (aJ 9 (aD bH (aD cV (aB 7) [:6060]) (aB 2))) (aE (bL (aI (aD iG (fK (.ins false "House" jf) 5 (mi uj [5] (bx (aD gx (aB 9) [:1]) (bx (aK 8 [:1]) (bx (aK 8 [:2]) (aC)))))) (aD gx (aB 6) [:1]))) (aM (fC (.bl false))) (aT)) (tx 4 (aB 9) (aH (bJ (aH (fy (bx (aB 8) (aC)))) (aK 4 (aB 9))))))))
def t4:FS:=aE (aJ 12 (aH (gm nJ (bx (aB 4) (aC))))) (bL (fP (aI (aD gO (o8 nj [5] (bx (aB 11) (bx (aB 12) (aC)))) (aB 10))) (dM (aI (f8 xz (bx (aB 12) (bx (aB 4) (aC))))))) (aM (fC (.bl false))) (aT))
def yf:FS:=aE (aJ 1 (f8 uk (bx (aB 0) (bx [:15] (aC))))) (aE (aJ 2 (aD gx [:1] (aD bH (aK 1 [:0]) [:5]))) (aE (aJ 3 (aD gx [:6] (aD bH (aD cV (aK 1 [:0]) [:5]) [:9]))) (aE (dR 4 (ii (gm eV (bx (aB 2) (aC))) [] cB (aH (fy (aC))))) (aE (uz 5 (tq "House" uq (bx (aB 2) (aC)))) (aE (dH 6 (gm eV (bx (aB 3) (aC))) (t5)) (aE (aJ 10 (bR (bx (fC (.str "told")) (bx (fC (.bl true)) (aC))))) (aE (bL (aI (aD eB (aB 3) [:7])) (aJ 10 (bR (bx (fC (.str "refused")) (bx (fC (.str "too many orders")) (aC))))) (aT)) (aE (dH 11 (gm eV (bx [:3] (aC))) (t4)) (aM (f8 xz (bx (fK (.ins false "House" jf) 5 (gy ul [5] (aC))) (bx (aB 4) (aC)))))))))))))
def uI:fh->fk:=aY 13 1 yf
end SQ
namespace SQ
open PySem L2 LB PyProof.Rows
def cY(i:Nat):Stmt:=PySem.Challenge.pw_rotstacks_k15_many_orders_refused.main.body.getD i (.Pass ⟨0,0,0,0⟩)
def jA(j:Nat):Stmt:=match cY 64 with | .ClassDef _ _ _ b _ _ _ _ _ _ _=>b.getD j (.Pass ⟨0,0,0,0⟩) |_=>.Pass ⟨0,0,0,0⟩
local macro_rules | `(tactic| walk_at "g") => `(tactic| first | exact m2 (by kernel_rfl) | exact mQ (by kernel_rfl) | exact mT (by kernel_rfl))
local macro_rules | `(tactic| exists $t:term) => `(tactic| as_aux_lemma => exact $t)
local macro_rules | `(tactic| walk_at "b") => `(tactic| exact ⟨by walk_at "g", by assumption⟩)
def ok_all{P:Program}{w:World}{K:e5}{mg:Str->eb}{C:Addr}(T3:cF K mg (cY 3) "sack_hours" ["sack"])(T4:cF K mg (cY 4) "sack_loss" ["sack"])(T5:cF K mg (cY 5) "sacks_in_all" ["stacks"])(T6:cF K mg (cY 6) "with_stack" ["stacks", "at", "stack"])(al:cF K mg (cY 35) "check_known" ["stacks", "at"])(a9:cF K mg (cY 36) "check_whole" ["stacks", "order"])(ba:cF K mg (cY 37) "check_order" ["stacks", "order"])(bb:cF K mg (cY 38) "taken_sacks" ["stacks", "order"])(be:cF K mg (cY 40) "order_cost" ["stacks", "order"])(bf:cF K mg (cY 44) "orders_of_heights" ["heights"])(bk:cF K mg (cY 45) "all_orders" ["stacks"])(bl:cF K mg (cY 46) "least_of_all" ["stacks"])(bm:cF K mg (cY 55) "check_count" ["many"])(bs:cF K mg (cY 56) "check_hours" ["hours"])(bt:cF K mg (cY 57) "check_loss" ["loss"])(bv:cF K mg (cY 58) "check_room" ["stacks"])(b1:cF K mg (cY 61) "check_deeds" ["deeds"])(b2:cF K mg (cY 62) "next_number" ["deeds"])(F:gJ K C (jA 0) "__init__" "House.__init__" ["self", "many"])(G:gJ K C (jA 1) "piles" "House.piles" ["self"])(H:gJ K C (jA 2) "spans" "House.spans" ["self"])(J:gJ K C (jA 3) "keep" "House.keep" ["self", "deed", "piles", "spans"])(L:gJ K C (jA 4) "put" "House.put" ["self", "at", "hours", "loss"])(M:gJ K C (jA 10) "stacks" "House.stacks" ["self"])(N:gJ K C (jA 17) "every" "House.every" ["self"])(ca:cF K mg (cY 66) "_law_whole" ["_law_found"])(cc:cF K mg (cY 67) "_law_at" ["_law_script", "_law_k"])(cd:cF K mg (cY 68) "_law_draws" ["_law_script", "_law_many"])(ch:cF K mg (cY 69) "_law_same_row" ["_law_found", "_law_due"])(ci:cF K mg (cY 70) "_law_same_rows" ["_law_found", "_law_due"])(ck:cF K mg (cY 71) "_law_same_stacks" ["_law_found", "_law_due"])(cl:cF K mg (cY 72) "_law_copy" ["_law_stacks"])(cm:cF K mg (cY 73) "_law_kind" ["_law_error"])(cn:cF K mg (cY 74) "_law_door" ["_law_door_here", "_law_stacks", "_law_house"])(co:cF K mg (cY 75) "_law_answer" ["_law_door_here", "_law_stacks", "_law_house"])(O:Cl K "House" C)(cs:fM K C)(mC:mg "House" = ↑(.ref C))(kC:PySem.W.makesIn K C=true)(pC:PySem.W.keepIn K (.ref C)=true)(Q:PySem.W.findIn K (.ref C) "kept" = ↑none)(A:PySem.W.findIn K (.ref C) "states" = ↑none)(p:hU K mg "BadCount")(q:hU K mg "BadHours")(s:hU K mg "BadLoss")(l:hU K mg "DeedsFull")(o:hU K mg "HouseFull")(e:hU K mg "TooManyOrders")(g:hU K mg "UnknownStack")(V:∃t,mg "MOST_DEEDS" = ↑(.int 60 t))(Y:∃t,mg "MOST_HOURS" = ↑(.int 60 t))(c:∃t,mg "MOST_LOSS" = ↑(.int 100 t))(b:∃t,mg "MOST_SACKS" = ↑(.int 7 t))(S:∃t,mg "MOST_STACKS" = ↑(.int 5 t))(D:∃t,mg "MOST_WAITING" = ↑(.int 14 t))(x:cO K mg)(B:mg "ValueError" = none)(a7:mg "bool" = none)(R:mg "enumerate" = none)(cp:mg "int" = none)(E:mg "isinstance" = none)(ct:mg "len" = none)(a8:mg "list" = none)(cv:mg "min" = none)(an:mg "range" = none)(c0:mg "str" = none)(c1:mg "sum" = none)(ap:mg "tuple" = none):∀base f fd,fA K "law" "law" (cY 76) f fd->bD P w K mg base bO 16 f fd ["_law_script"] (dB K uI):=by
 intro base;have d:k4 K "House" "kept":=⟨C,cs,Q,O⟩;have U:k4 K "House" "states":=⟨C,cs,A,O⟩;have c3:bV P w K mg base bO "sack_hours" 1 (dB K nA):=by exists j7 T3 ["sack"] λr a t=>d8 (gl (ja ez a))
 have c4:bV P w K mg base bO "sack_loss" 1 (dB K nB):=by exists j7 T4 ["sack"] λr a t=>d8 (gl (ja ez a))
 have c5:bV P w K mg base bO "sacks_in_all" 1 (dB K sw):=by exists j7 T5 ["stacks"] λr a t=>d8 (gl (qT (cy (f7 (rb a (lw (cf a)) (λ_ _ _ _ _ _ _ a=>j8 a))) du)))
 have c6:bV P w K mg base bO "with_stack" 1 (dB K wu):=by exists j7 T6 ["stacks", "at", "stack"] λr a t=>d8 (gl (f7 (km (f7 (km (f7 (u5 (cf a) vo (vn (ph (cf a) ez)))) (f7 (jb (cy (cf a) du))))) (f7 (u5 (cf a) (vn (cf a)) vo)))))
 have ar:bV P w K mg base (cP P w) "check_known" 1 (eG K xk xj):=by exists o6 al ["stacks", "at"] λr a t=>d8 (i8 (dQ (nv (ql (cf a) ez) (og (ny (cf a) (j8 a))))) (d8 (qf g AN)) i9)
 have c2:bV P w K mg base bO "check_known" 1 (dB K nL):=by exists j7 al ["stacks", "at"] λr a t=>d8 (i8 (dQ (nv (ql (cf a) ez) (og (ny (cf a) (j8 a))))) (d8 mJ) i9)
 have c7:bV P w K mg base bO "check_whole" 1 (dB K nN):=by exists j7 a9 ["stacks", "order", "left", "at"] λr a t=>d9 (qt (wd a t (lw (cf a)) (λ_ _ _ _ _ _ _ a=>j8 a))) (d9 (m7 (lw (cf a)) t.pg (d9 (i8 (qk (ja (ph (cf a) ez) a) ez) (d8 mJ) i9) (d8 (Ay (ph (cf a) ez) ez a)))) (d8 (i8 (ny (A0 a) ez) (d8 mJ) i9)))
 have da:bV P w K mg base bO "check_order" 2 (dB K nP):=by exists j7 ba ["stacks", "order", "at"] λr a t=>d9 (m7 (lw (cf a)) t.pg (d8 (kr (j1 c2 r (cy (cf a) (cy (cf a) du)))))) (d8 (kr (j1 c7 r (cy (cf a) (cy (cf a) du)))))
 have dc:bV P w K mg base bO "taken_sacks" 3 (dB K nR):=by exists j7 bb ["stacks", "order", "taken", "sacks", "at"] λr a t=>d9 (kr (j1 da r (cy (cf a) (cy (cf a) du)))) (d9 (qt (wd a t (lw (cf a)) (λ_ _ _ _ _ _ _ a=>ez))) (d9 (qt (t.psF (jb du))) (d9 (m7 (lw (cf a)) t.pg (d9 (kr (rk (yl (ja (ph (cf a) ez) a) (ja (ph (cf a) ez) a)) a)) (d8 (Ax (ph (cf a) ez) ez a)))) (d8 (gl (cf a))))))
 have dd:bV P w K mg base bO "order_cost" 4 (dB K wv):=by exists j7 be ["stacks", "order", "cost", "hour", "sack"] λr a t=>d9 (il t ez) (d9 (il t ez) (d9 (m7 (lw (j1 dc r (cy (cf a) (cy (cf a) du)))) t.pg (d9 (rG t (j1 c3 r (cy (cf a) du))) (d8 (rG t (y9 (j1 c4 r (cy (cf a) du)) (cf a)))))) (d8 (gl (cf a)))))
 have dj:bV P w K mg base bO "orders_of_heights" 10 (dB K oO):=by exists Bf 9 bf ["heights", "orders", "place", "height", "rest"] λj m=>λcs r a t=>d9 (i8 (qk (qT (cy (cf a) du)) ez) (d8 (gl (f7 (jb (cy (f7 (jb du)) du))))) i9) (d9 (qt (t.psF (jb du))) (d9 (Ak (Au (cy (cf a) du)) (rz t (rz t Aj)) (d8 (i8 (ny (cf a) ez) (d9 (il t (f7 (km (f7 (km (f7 (u5 (cf a) vo (vn (cf a)))) (f7 (jb (cy (ph (cf a) ez) du))))) (f7 (u5 (cf a) (vn (lc (cf a) ez)) vo))))) (d8 (kr (Az (rb a (lw (j1 (hkj:=bn _) cs r (cy (cf a) du))) (λ_ _ _ _ _ _ _ a=>f7 (km (f7 (jb (cy (lc (cf a) ez) du))) (cf a)))) a)))) i9))) (d8 (gl (cf a)))))
 have T:bV P w K mg base (cP P w) "all_orders" 11 (eG K qh mv):=by exists o6 bk ["stacks"] λr a t=>d9 (i8 (ny (j1 c5 r (cy (cf a) du)) (md b)) (d8 (qf e (qx (kq oq (kq (qz (md b)) (kq oq qy)))))) i9) (d8 (gl (j1 dj r (cy (f7 (rb a (lw (cf a)) (λ_ _ _ _ _ _ _ a=>j8 a))) du))))
 have X:bV P w K mg base (cP P w) "least_of_all" 12 (eG K mw ku):=by exists o6 bl ["stacks", "costs", "least"] λr a t=>d9 (l7 (rl (wd a t (lw (ni T r (j0 (cy (cf a) du)))) (λ_ _ _ _ _ _ _ a=>j1 dd r (cy (cf a) (cy (cf a) du))))) (B8 (i:=1) (ix:=[0]) a t (nh T r (j0 (cy (cf a) du))))) (d9 (il t (A4 (cy (cf a) du))) (d8 (gl (m8 (cy (j8 a) (cy (cf a) (cy (A8 (cf a) (cf a)) du)))))))
 have a0:bV P w K mg base (cP P w) "check_count" 1 (eG K xi xh):=by exists o6 bm ["many"] λr a t=>d8 (i8 (dQ (nv (ql (cf a) ez) (og (ny (cf a) (md S))))) (d8 (qf p (qx (kq oq (kq (qz (md S)) (kq oq qy)))))) i9)
 have a1:bV P w K mg base (cP P w) "check_hours" 1 (eG K xg xf):=by exists o6 bs ["hours"] λr a t=>d8 (i8 (dQ (nv (ql (cf a) ez) (og (ny (cf a) (md Y))))) (d8 (qf q (qx (kq oq (kq (qz (md Y)) (kq oq qy)))))) i9)
 have a2:bV P w K mg base (cP P w) "check_loss" 1 (eG K xu xt):=by exists o6 bt ["loss"] λr a t=>d8 (i8 (dQ (nv (ql (cf a) ez) (og (ny (cf a) (md c))))) (d8 (qf s (qx (kq oq (kq (qz (md c)) qy))))) i9)
 have a3:bV P w K mg base (cP P w) "check_room" 2 (eG K xq sg):=by exists o6 bv ["stacks"] λr a t=>d8 (i8 (qQ (j1 c5 r (cy (cf a) du)) (md D)) (d8 (qf o (qx (kq (qz (md D)) (kq oq qy))))) i9)
 have a4:bV P w K mg base (cP P w) "check_deeds" 1 (eG K w6 sj):=by exists o6 b1 ["deeds"] λr a t=>d8 (i8 (qQ (j8 a) (md V)) (d8 (qf l (qx (kq (qz (md V)) (kq oq qy))))) i9)
 have dk:bV P w K mg base bO "next_number" 1 (dB K wy):=by exists j7 b2 ["deeds"] λr a t=>d8 (gl (lc ez (zB (cy (f7 (zU a (lw (cf a)) (λ_ _ _ _ _ _ _ a=>qk (ja ez a) jk) (λ_ _ _ _ _ _ _ a=>cf a))) du))))
 have Z:iV P w K mg base "House" 2 (hO K uq ou):=by exists Bb O mC kC pC F ["self", "many"] λr a t=>d9 (l7 (kr (ni a0 r (j0 (cy (cf a) du)))) (rg (nh a0 r (j0 (cy (cf a) du))))) (d9 (sI d a (jb du)) (d8 (sI U a (jb (cy (m8 (cy (f7 (rb a (pi (cy (cf a) du)) (λ_ _ _ _ _ _ _ a=>f7 (jb du)))) (cy (f7 (jb du)) du))) du)))))
 have k:dY P w K mg base "House" "piles" 1 (eG K nk C0):=by exists uw O cs G ["self"] λr a t=>d8 (gl (yl (sB (vw U a) (sA s0)) ez))
 have aa:dY P w K mg base "House" "spans" 1 (eG K w5 C1):=by exists uw O cs H ["self"] λr a t=>d8 (gl (yl (sB (vw U a) (sA s0)) ez))
 have ab:dY P w K mg base "House" "keep" 1 (hO K ui C2):=by exists sJ O cs J ["self", "deed", "piles", "spans"] λr a t=>d9 (kr (sC (vw d a) (cf a))) (d8 (kr (sC (vw U a) (m8 (cy (cf a) (cy (cf a) du))))))
 have ac:dY P w K mg base "House" "put" 3 (hO K uj oB):=by exists sJ O cs L ["self", "at", "hours", "loss", "piles", "number", "stack"] λr a t=>d9 (il t (qg k r a)) (d9 (l7 (kr (ni ar r (j0 (cy (cf a) (cy (cf a) du))))) (rg (nh ar r (j0 (cy (cf a) (cy (cf a) du)))))) (d9 (l7 (kr (ni a1 r (j0 (cy (cf a) du)))) (rg (nh a1 r (j0 (cy (cf a) du))))) (d9 (l7 (kr (ni a2 r (j0 (cy (cf a) du)))) (rg (nh a2 r (j0 (cy (cf a) du))))) (d9 (l7 (kr (ni a3 r (j0 (cy (cf a) du)))) (rg (nh a3 r (j0 (cy (cf a) du))))) (d9 (l7 (kr (sG (λ_ _=>ni a4 r (j0 (cy (np d a) du))))) (rg (AW (λ_ _=>nh a4 r (j0 (cy (np d a) du)))))) (d9 (il t (sG (λ_ _=>j1 dk r (cy (np d a) du)))) (d9 (il t (f7 (km (f7 (jb (cy (m8 (cy (cf a) (cy (cf a) (cy (cf a) du)))) du))) (ja (ph (cf a) ez) a)))) (d9 (kr (su ab r (cy (m8 (cy jk (cy (cf a) (cy (cf a) (cy (cf a) du))))) (cy (j1 c6 r (cy (cf a) (cy (cf a) (cy (cf a) du)))) (cy (qg aa r a) du))) a)) (d8 (gl (cf a)))))))))))
 have ag:dY P w K mg base "House" "stacks" 2 (eG K ul C3):=by exists uw O cs M ["self"] λr a t=>d8 (gl (f7 (rb a (lw (qg k r a)) (λ_ _ _ _ _ _ _ a=>f7 (qU (cy (cf a) du))))))
 have z:dY P w K mg base "House" "every" 13 (eG K uo um):=by exists uw O cs N ["self"] λr a t=>d8 (l7 (gl (ni X r (j0 (cy (qg k r a) du)))) (t9 (nh X r (j0 (cy (qg k r a) du)))))
 have dp:bV P w K mg base bO "_law_whole" 1 (dB K ww):=by exists j7 ca ["_law_found"] λr a t=>d8 (gl (yV (mj Ah (cf a)) (yU (yW (mj Ai (cf a))))))
 have dr:bV P w K mg base bO "_law_at" 1 (dB K uf):=by exists j7 cc ["_law_script", "_law_k"] λr a t=>d9 (i8 (ql (cf a) (j8 a)) (d8 (gl (ja (cf a) a))) i9) (d8 (gl ez))
 have ds:bV P w K mg base bO "_law_draws" 2 (dB K uk):=by exists j7 cd ["_law_script", "_law_many", "_law_made", "_law_state", "_law_k", "_law_cell"] λr a t=>d9 (qt (t.psF (jb du))) (d9 (il t ez) (d9 (m7 (pi (cy (cf a) du)) t.pg (d9 (il t (j1 dr r (cy (cf a) (cy (cf a) du)))) (d9 (i8 (qk (pd (j8 a) ez) ez) (d9 (il t (pd (lc (lc (lc (y9 (cf a) ez) (cf a)) (cf a)) ez) ez)) (d8 (il t (pd (y9 (lc (cf a) (cf a)) ez) ez)))) i9) (d8 (kr (rk (cf a) a)))))) (d8 (gl (cf a)))))
 have dt:bV P w K mg base bO "_law_same_row" 2 (dB K nD):=by exists j7 ch ["_law_found", "_law_due", "_law_k"] λr a t=>d9 (i8 (dQ (nv (oa (l8 (mj ue (cf a)))) (og (tu (j8 a) (j8 a))))) (d8 (gl kz)) i9) (d9 (m7 (pi (cy (j8 a) du)) t.pg (d9 (i8 (dQ (y7 (l8 (mj zc (ja (cf a) a))) (zr (oa (l8 (mj zc (ja (cf a) a))))))) (d8 (gl kz)) i9) (d9 (i8 (dQ (y7 (oa (l8 (mj zc (ja (cf a) a)))) (zr (oa (l8 (j1 dp r (cy (ja (cf a) a) du))))))) (d8 (gl kz)) i9) (d8 (i8 (tu (ja (cf a) a) (ja (cf a) a)) (d8 (gl kz)) i9))))) (d8 (gl kz)))
 have dv:bV P w K mg base bO "_law_same_rows" 3 (dB K x8):=by exists j7 ci ["_law_found", "_law_due", "_law_k"] λr a t=>d9 (i8 (dQ (nv (oa (l8 (mj vm (cf a)))) (og (tu (j8 a) (j8 a))))) (d8 (gl kz)) i9) (d9 (m7 (pi (cy (j8 a) du)) t.pg (d8 (i8 (oa (l8 (j1 dt r (cy (ja (cf a) a) (cy (ja (cf a) a) du))))) (d8 (gl kz)) i9))) (d8 (gl kz)))
 have a5:bV P w K mg base bO "_law_same_stacks" 4 (dB K xz):=by exists j7 ck ["_law_found", "_law_due", "_law_k"] λr a t=>d9 (i8 (dQ (nv (oa (l8 (mj vm (cf a)))) (og (tu (j8 a) (j8 a))))) (d8 (gl kz)) i9) (d9 (m7 (pi (cy (j8 a) du)) t.pg (d8 (i8 (oa (l8 (j1 dv r (cy (ja (cf a) a) (cy (ja (cf a) a) du))))) (d8 (gl kz)) i9))) (d8 (gl kz)))
 have dx:bV P w K mg base bO "_law_copy" 1 (jD K nJ):=by exists Ba cl ["_law_stacks"] λr a t=>d8 (z_ (rb a (lw (cf a)) (λ_ _ _ _ _ _ _ a=>f7 (qU (cy (cf a) du)))))
 obtain⟨RA,hR,hS⟩:=x.rot;have kk:k_ P w K mg base "_law_kind" 1 gM:=by exists B0 cm ["_law_error", "_law_kinds", "_law_words", "_law_found"] Dc λu v y a t=>d9 (il t (f7 (jb (cy (lv x u v y a) (cy (lv x u v y a) du))))) (d9 (il t (f7 (km (cf a) (f7 (jb (cy (lv x u v y a) (cy (lv x u v y a) du))))))) (d9 (il t (f7 (km (cf a) (f7 (jb (cy (lv x u v y a) (cy (lv x u v y a) du))))))) (d9 (il t (f7 (km (cf a) (f7 (jb (cy (lv x u v y a) (cy (lv x u v y a) du))))))) (d9 (il t (f7 (km (cf a) (f7 (jb (cy (lv x u v y a) (cy (lv x u v y a) du))))))) (d9 (il t (f7 (km (cf a) (f7 (jb (cy (lv x u v y a) (cy (lv x u v y a) du))))))) (d9 (il t (f7 (km (cf a) (f7 (jb (cy (lv x u v y a) du)))))) (d9 (il t (f7 (jb (cy jk (cy jk (cy jk (cy jk (cy jk (cy jk du))))))))) (d9 (il t (f7 (km (cf a) (f7 (jb (cy jk (cy jk (cy jk (cy jk (cy jk du)))))))))) (d9 (il t (f7 (km (cf a) (f7 (jb (cy jk (cy jk du))))))) (d9 (rl (Ad (λ_ _ _ _ _ _ _ I h=>y.comp I h) a t (qX (λit lo n=>Bm it lo n) (cy ez du)) (λ_ _ _ _ _ _ _ y a=>dQ (y7 (l8 (ja (cf a) a)) (zr (l8 (Bz x u v y a))))) (λ_ _ _ _ _ _ _ y a=>ja (cf a) a))) (d8 (gl (Bu (cy (f7 (km (f7 (jb (cy jk du))) (cf a))) du))))))))))))))
 have a6:bV P w K mg base (cP P w) "_law_door" 14 (iJ K sf nn):=by exists sQ cn ["_law_door_here", "_law_stacks", "_law_house"] λr a t=>d9 (i8 (qk (cf a) ez) (d8 (l7 (gl (mj vm (ni T r (j0 (cy (cf a) du))))) (t9 (yv vm (nh T r (j0 (cy (cf a) du))))))) i9) (d9 (i8 (qk (cf a) ez) (d8 (l7 (gl (mj ue (ni X r (j0 (cy (cf a) du))))) (t9 (yv ue (nh X r (j0 (cy (cf a) du))))))) i9) (d8 (l7 (gl (mj ue (qg z r a))) (t9 (yv ue (B9 z r a))))))
 have d0:bV P w K mg base (cP P w) "_law_answer" 15 (iJ K nj Dl):=by exists sQ co ["_law_door_here", "_law_stacks", "_law_house", "_law_refused", "e"] λr a t=>d9 (il t (m8 (cy jk (cy jk du)))) (d9 (Bx hR hS kk r a t (λ_ _ a t=>d8 (l7 (gl (m8 (cy jk (cy (sR a6 r (re (cf a) (re (cf a) (yw zz a)))) du)))) (t9 (B6 (AH jk (AG (B5 a6 r (re (cf a) (re (cf a) (yw zz a)))) du))))))) (d8 (gl (cf a))))
 exact Bc ["_law_script", "_law_draws_here", "_law_many", "_law_count", "_law_stacks", "_law_house", "_law_k", "_law_cell", "_law_sack", "_law_place", "_law_due", "_law_door_here", "_law_handed"] λr a t=>d9 (il t (j1 ds r (cy (cf a) (cy ez du)))) (d9 (il t (lc ez (pd (ja ez a) ez))) (d9 (il t (lc ez (pd (y8 (ja ez a) ez) ez))) (d9 (qt (wd a t (pi (cy (cf a) du)) (λ_ _ _ _ _ _ _ a=>f7 (jb du)))) (d9 (AS t (AU Z r (cy (cf a) du))) (d9 (m7 (pi (cy (cf a) du)) t.pg (d9 (il t (ja (lc ez (cf a)) a)) (d9 (il t (m8 (cy (lc (cf a) ez) (cy (lc ez (pd (cf a) ez)) (cy (pd (y8 (cf a) ez) ez) du))))) (d9 (il t (pd (y8 (cf a) ez) (cf a))) (d9 (i8 (tu (su ac r (cy (lc (cf a) ez) (cy (ja ez a) (cy (ja ez a) du))) a) (lc (cf a) ez)) (d8 (gl kz)) i9) (d8 (Ab (cf a) (f7 (km (f7 (jb (cy (cf a) du))) (ja (cf a) a))) a))))))) (d9 (il t (m8 (cy jk (cy kz du)))) (d9 (i8 (ny (cf a) ez) (d8 (il t (m8 (cy jk (cy jk du))))) i9) (d9 (m7 (pi (cy ez du)) t.pg (d9 (il t (f7 (yZ dx r (cy (cf a) du)))) (d8 (i8 (dQ (nv (BC r (sR d0 r (re (cf a) (re (cf a) (yw zz a)))) (cf a)) (og (oa (l8 (j1 a5 r (cy (cf a) (cy (cf a) du)))))))) (d8 (gl kz)) i9)))) (d8 (gl (j1 a5 r (cy (qg ag r a) (cy (cf a) du)))))))))))))
end SQ
namespace SQ
open PySem L2 LB
def dG(l:ei):bE (l.map D.int)=↑l:=by
 induction l with
 |nil=>rfl |cons a l ih=>rw[b4,bE,ih];rfl
def uJ:∀h:ee,(h.map λn:Nat=>(n:Int)).sum=(h.sum:Int)
 | []=>rfl |a::h=>by rw[b4,f6,f6,uJ h];simp
theorem zh{α:Type}(B:Nat):∀l:List (List α),(∀r∈l,r.length<=B)->l.flatten.length<=l.length*B
 | [],_=>by simp |a::l,h=>by
   have h1:=h a ay;have h2:=zh B l λr D=>h r (ai _ D);rw[iz,bd,ak,Nat.add_mul]
   lia
theorem zg:∀(f:Nat) (h:ee),h.length<=5->(cX f h).length<=5 ^ h.sum
 |0,_,_=>by simp[cX] |f+1,h,hl=>by
   unfold cX;split
   ·rename_i e;rw[e];simp
   ·rename_i e
    obtain⟨n,hn⟩:∃n,h.sum=n+1:=⟨h.sum-1,by lia⟩;have q:=zh (5 ^ n) ((List.range h.length).map λj=>if 0<h.getD j 0 then(cX f (dE h j)).map ((j+1)::·) else[]) λr D=>by
     obtain⟨j,_,rfl⟩:=dn.mp D;split
     ·rename_i p
      have I:=nc h j p;rw[af];have:=zg f (dE h j) (by rw[qb];exact hl);rwa [show(dE h j).sum=n by lia] at this
     ·exact gh _
    rw[af,fg] at q;rw[hn,Nat.pow_succ,Nat.mul_comm];exact b5 q (Nat.mul_le_mul_right _ hl)
theorem uK:∀(f:Nat) (h w:ee),w∈cX f h->w.length=h.sum
 |0,_,_,q=>by simp[cX] at q |f+1,h,w,q=>by
   unfold cX at q;split at q
   ·rename_i e;rw[b6.mp q,e];rfl
   ·obtain⟨l,I,D⟩:=gq.mp q
    obtain⟨j,_,rfl⟩:=dn.mp I;split at D
    ·rename_i p
     obtain⟨v,S,rfl⟩:=dn.mp D;have:=uK f _ v S;have U:=nc h j p;rw[ak];lia
    ·exact absurd D gp
abbrev wD(w:ee):D:=.lst (iD w)
variable{n:Nat}
def Dm(h:n<=7):5 ^ n<=78125:=b5 (j3 (by decide) h) (by decide)
abbrev cZ(f:Nat)(h:ee)(j:Nat):List ee:=if 0<h.getD j 0 then(cX f (dE h j)).map ((j+1)::·) else[]
theorem uL:∀(f:Nat) (h:ee),h.length<=5->h.sum<f->h.sum<=7->dO 5 1 mx f [.lst (iD h)]=↑(.lst ((cX f h).map wD))
 |0,_,_,q,_=>by lia |f+1,h,hl,hf,h7=>by
   have v:fD [.lst (iD h)]=↑↥(h.sum:Int):=by
    have:=sY (λn:Nat=>(n:Int)) h;rw[uJ] at this;exact this
   show aY 5 1 (mx (dO 5 1 mx f)) [.lst (iD h)]=_;have B:=λj (p:0<h.getD j 0)=>uL f (dE h j) (by rw[qb];exact hl) (by have:=nc h j p;lia) (by have:=nc h j p;lia);generalize O:dO 5 1 mx f=m at *;by_cases y:h.sum=0
   ·rw[cX,am y]
    refine ml (e':=[!.lst (iD h),none,none,none,none]) rfl ?_;show mx m [!.lst (iD h),none,none,none,none]=_;have b:decide ((h.sum:Int)=0)=true:=j2 ∅;generalize iD h=HD at *;simp only[mx,aE,bL,aM,f8,bx,aC,aB,fC,aD,aI,aH,fy,v,eU,b,ak,di,gh,show(0+1<=64)=True by simp,d7,aw,ax,ae,bi];rfl
   ·have b:decide ((h.sum:Int)=0)=false:=c9 ∅
    have d:cX (f+1) h=((List.range h.length).map (cZ f h)).flatten:=by rw[cX,b3 y]
    have i:∀j,(cZ f h j).length<=15625:=λj=>by
     unfold cZ;split
     ·rename_i p
      have C:=nc h j p;rw[af];refine b5 (zg f (dE h j) (by rw[qb];exact hl)) ?_;exact b5 (j3 (by decide) (show(dE h j).sum<=6 by lia)) (by decide)
     ·exact gh _
    have hi:jF 0 [.lst (iD h)]=↑((h.zipIdx 0).map λz:Nat×Nat=>D.tup [D.int (z.2:Nat),D.int (z.1:Int)]):=by
     show ↑(l3 0 (h.map λn:Nat=>D.int (n:Int)))=_;rw[s_]
    obtain⟨e',h1,Y,a,S,rfl⟩:=BU (ix:=[2,3]) (g:=sx m) (λz:Nat×Nat=>[D.int (z.2:Nat),D.int (z.1:Int)])
     (λp e=>∃Y a S,e=[!.lst (iD h),↑(.ow ((((List.range p.length).map (cZ f h)).flatten).map wD)),Y,a,S]) (h.zipIdx 0) [!.lst (iD h),↑(.ow []),none,none,none] ⟨none,none,none,rfl⟩ (λ_ _=>rfl) (by
       rintro p x q e l ⟨Y,a,S,rfl⟩;obtain⟨hi,rfl⟩:=Dj l;have V:h.getD p.length 0=h[p.length]:=by rw[aq,au hi];rfl
       have E:((List.range (p++[(h[p.length],p.length)]).length).map (cZ f h)).flatten=((List.range p.length).map (cZ f h)).flatten++cZ f h p.length:=by
        rw[bd,e7,jo,db,List.flatten_append];simp
       have fl:=zh 15625 ((List.range p.length).map (cZ f h)) λr F=>by
        obtain⟨j,_,rfl⟩:=dn.mp F;exact i j
       rw[af,fg] at fl;have G:=b5 fl (Nat.mul_le_mul_right 15625 (show p.length<=5 by lia));have P:=i p.length;rw[E,db];have U:cE (((((List.range p.length).map (cZ f h)).flatten).map wD).length+((cZ f h p.length).map wD).length):=few (by rw[af,af];lia);generalize (((List.range p.length).map (cZ f h)).flatten).map wD=ACC at *;generalize Q:p.length=k at *;by_cases c:0<h[k]
       ·have A:=B k (by rw[V];exact c)
        have I:cZ f h k=(cX f (dE h k)).map ((k+1)::·):=by unfold cZ;rw[am (by rw[V];exact c)]
        rw[I] at U ⊢;have o:decide ((0:Int)<(h[k]:Int))=true:=j2 ∅;have R:(iD h).length=h.length:=by unfold iD;rw[af]
        have ct:=tP (iD h) k ∅;have H:=tQ (iD h) (k+1) ∅;have J:(iD h).take k++[↥((h[k]:Int)-1)]++(iD h).drop (k+1)=iD (dE h k):=by
         unfold dE iD;rw[V,<-List.map_take,<-List.map_drop,kx,am hi,db,b4,show((h[k]:Int)-1)=((h[k]-1:Nat):Int) by lia,c8];rfl
        have s:cE (((iD h).take k).length+(0+1)):=few (by rw[d6];lia);have t:cE (((iD h).take k++[D.int ((h[k]:Int)-1)]).length+((iD h).drop (k+1)).length):=few (by rw[bd,d6,eo,e7];lia);have K:=mr (te:=aH (bJ (aH (fy (bx (aD gx (aB 1) [:1]) aC))) (aB 0))) (base:=[!↥(k:Nat)]) wD (λw=>wD ((k+1)::w)) (cX f (dE h k)) λw d=>by
         have T:=uK f (dE h k) w d;have C:=nc h k (by rw[V];exact c);have L:cE (0+1+(iD w).length):=few (by unfold iD;rw[af];lia);refine⟨[!wD w,!↥(k:Nat)],?_⟩;rw[show wD ((k+1)::w)=.lst (.int ((k:Int)+1)::iD w) from rfl];unfold wD;generalize iD w=WL at *;simp only[aH,bJ,fy,bx,aC,aD,aB,fC,gx,L,ak,di,show(0+1<=64)=True by simp,d7,aw,ax,ae,bi,dm,jp]
        have u:cE ((cX f (dE h k)).map wD).length:=few (by rw[af];have:=i k;rw[I,af] at this;lia);have M:((cX f (dE h k)).map ((k+1)::·)).map wD=(cX f (dE h k)).map λw=>wD ((k+1)::w):=by rw[ib];rfl
        rw[M] at U ⊢;generalize (cX f (dE h k)).map (λw=>wD ((k+1)::w))=NEW at *;generalize (cX f (dE h k)).map wD=OLD at *;refine⟨[!.lst (iD h),↑(.ow (ACC++NEW)),!↥(k:Nat),!↥(h[k]:Int),!.lst (iD (dE h k))],?_,_,_,_,rfl⟩;show sx m [!.lst (iD h),↑(.ow ACC),!↥(k:Nat),!↥(h[k]:Int),S]=_;rw[<-J] at A ⊢;generalize (iD h).take k=TK at *;generalize (iD h).drop (k+1)=DR at *;generalize iD h=HD at *;generalize h[k]=hk2 at *;have N:((k:Int)+1)=((k+1:Nat):Int):=by lia
        simp only[sx,bL,aE,aJ,jx,aI,aD,aB,fC,eB,o,d7,aH,bJ,gT,hC,gS,ct,gx,N,H,fy,bx,aC,bS,s,t,ak,di,show(0+1<=64)=True by simp,vk,ii,dW,f8,A,u,b4,dq,List.getD_cons_zero,List.getD_cons_succ,fE,K,yq,U,aw,ax,ce,cj,ae,bi]
       ·have I:cZ f h k=[]:=by unfold cZ;rw[b3 (by rw[V];exact c)]
        rw[I,dq,cr];have o:decide ((0:Int)<(h[k]:Int))=false:=c9 ∅;refine⟨[!.lst (iD h),↑(.ow ACC),!↥(k:Nat),!↥(h[k]:Int),S],?_,_,_,_,rfl⟩;show sx m [!.lst (iD h),↑(.ow ACC),!↥(k:Nat),!↥(h[k]:Int),S]=_;generalize iD h=HD at *;generalize h[k]=hk2 at *;simp only[sx,bL,aT,aI,aD,aB,fC,eB,o,cw,fo,aw,ax,ae,bi])
    rw[List.length_zipIdx,<-d] at h1;refine ml (e':=[!.lst (iD h),!.lst ((cX (f+1) h).map wD),Y,a,S]) rfl ?_;show mx m [!.lst (iD h),none,none,none,none]=_;generalize (cX (f+1) h).map wD=RES at *;generalize iD h=HD at *;generalize (h.zipIdx 0).map (λz:Nat×Nat=>D.tup [D.int (z.2:Nat),D.int (z.1:Int)])=EN at *;simp only[mx,aE,bL,aM,aT,dR,yr,f8,gm,bx,aC,aB,fC,aD,aI,aH,fy,v,eU,b,hi,h1,di,gh,d7,cw,fo,aw,ax,ce,cj,ae,bi]
variable{ss:gu}
def Do{w:ee}:kG (ss.map List.length) w↔aZ ss w:=by
 constructor
 ·intro q
  refine⟨λa S=>by have:=q.1 a S;rwa [af] at this,λj s D=>?_⟩;have I:=(ah.mp D).1;rw[q.2 j (by rw[af];exact I),aq,bh,D];rfl
 ·intro q
  refine⟨λa S=>by rw[af];exact q.lo a S,λj I=>?_⟩;rw[af] at I;have D:ss[j]?=↑ss[j]:=au I;rw[q.cnt j _ D,aq,bh,D];rfl
theorem uM:∀(f:Nat) (h:ee),h.sum<f->cX f h≠[]
 |0,_,q=>by lia |f+1,h,q=>by
   unfold cX;split
   ·simp
   ·rename_i I
    obtain⟨j,D,p⟩:∃j,j<h.length/\0<h.getD j 0:=by
     by_cases c:∃j,j<h.length/\0<h.getD j 0
     ·exact c
     ·exfalso
      apply I;rw[gf];intro a S;obtain⟨j,D⟩:=List.mem_iff_getElem?.mp S;have l:=(ah.mp D).1;by_cases e:a=0
      ·exact e
      ·exact absurd ⟨j,l,by rw[aq,D];show 0<a;lia⟩ c
    intro e;have V:=nc h j p;obtain⟨v,U⟩:=List.exists_mem_of_ne_nil _ (uM f (dE h j) ∅);have:(j+1)::v∈(((List.range h.length).map λj=>if 0<h.getD j 0 then(cX f (dE h j)).map ((j+1)::·) else[]).flatten):=by
     refine gq.mpr ⟨_,dn.mpr ⟨j,fq.mpr D,rfl⟩,?_⟩;rw[am p];exact dn.mpr ⟨v,U,rfl⟩
    rw[e] at this;exact absurd this gp
theorem uN(S:ss.length<=5)(Y:ss.flatten.length<=7):mv [] [aG ss]=none/\qh [] [aG ss]=↑(.lst ((cX 9 (ss.map List.length)).map wD)):=by
 have a:(ss.map List.length).sum=ss.flatten.length:=by rw[kh]
 have I:=uL 9 (ss.map List.length) (by rw[af];exact S) ∅ ∅;have sk:sw [aG ss]=↑↥(ss.flatten.length:Int):=nY ss ∅;have c:=mr (te:=ij 0) (base:=[]) (λs:gs=>D.lst (s.map sD)) (λs:gs=>D.int (s.length:Int)) ss λs _=>⟨[!.lst (s.map sD)],by simp[ij]⟩;have U:cE (ss.map λs=>D.lst (s.map sD)).length:=few (by rw[af];lia);have e:iD (ss.map List.length)=ss.map λs:gs=>D.int (s.length:Int):=by unfold iD;rw[ib];rfl
 have V:decide ((7:Int)<(ss.flatten.length:Int))=false:=c9 ∅;unfold mv qh xQ bG;rw[am ⟨rfl,rfl⟩,am ⟨rfl,rfl⟩,show ju 1 [] [aG ss]=[!aG ss] from rfl];rw[e] at I;generalize (cX 9 (ss.map List.length)).map wD=RES at *;unfold wx;rw[show oO=dO 5 1 mx 9 from rfl];generalize dO 5 1 mx 9=mo at *;unfold aG at *;generalize (ss.map λs:gs=>D.int (s.length:Int))=LN at *;generalize (ss.map λs=>D.lst (s.map sD))=SL at *;simp only[aE,bL,aM,aT,aI,aD,f8,bx,aC,aB,fC,aH,ii,dW,sk,eB,V,U,c,I,dq,d7,cw,fo,aw,ae,bi,and_self]
theorem uO(I:ss.length<=5)(S:7<ss.flatten.length):mv [] [aG ss]=↑("TooManyOrders" : Str):=by
 have sk:sw [aG ss]=↑↥(ss.flatten.length:Int):=nY ss ∅;have D:(7:Int)<(ss.flatten.length:Int):=by lia
 unfold mv xQ;rw[am ⟨rfl,rfl⟩,show ju 1 [] [aG ss]=[!aG ss] from rfl];generalize (ss.flatten.length:Int)=n at *;generalize aG ss=SL at *;simp[wx,sk,D,l6,vInt]
variable{F:FA}{e:DE0}{r:fh×DE0}
def kI{m:f4->fh->et}(h:F e=↑r):jy m [] F e=(m [] r.1).map λc=>(c,r.2):=by
 unfold jy;rw[am (show cR e [] from λk I=>by cases I),h];rfl
def oQ{m:f4->fh->fk}(h:F e=↑r):gy m [] F e=(m [] r.1).map λd=>(d,r.2):=by
 unfold gy;rw[am (show cR e [] from λk I=>by cases I),h];rfl
theorem Dp(V:ss.length<=5)(d:ss.flatten.length<=7)(f:∀x∈ss.flatten,jt x):∃t,ku [] [aG ss]=none/\mw [] [aG ss]=↑(.tup t):=by
 have u:(ss.map List.length).sum=ss.flatten.length:=by rw[kh]
 obtain⟨g,h⟩:=uN V d;have U:=uM 9 (ss.map List.length) ∅;have i:=zi 9 (ss.map List.length) ∅;have I:=zg 9 (ss.map List.length) (by rw[af];exact V);have I:=b5 I (Dm (show(ss.map List.length).sum<=7 by lia));generalize cX 9 (ss.map List.length)=WS at *;have Y:=mr (te:=f8 wv (bx (aB 1) (bx (aB 0) aC))) (base:=[!aG ss]) wD (λo=>D.int (fx 0 (tk ss o))) WS λo j=>by
  have a:=Do.mp ((i o).mp j);have oc:=Cu a f ∅ (by rw[a.len];lia);exact⟨[!wD o,!aG ss],by simp only[f8,bx,aC,aB,oc,aw,ax,ae,bi]⟩
 have k:cE (WS.map wD).length:=few (by rw[af];lia);have l:(WS.map λo=>D.int (fx 0 (tk ss o)))=(WS.map λo=>fx 0 (tk ss o)).map D.int:=by rw[ib];rfl
 rw[l] at Y;have S:(WS.map λo=>fx 0 (tk ss o))≠[]:=λe=>U (gz.mp e);generalize n:(WS.map λo=>fx 0 (tk ss o))=cs at *;obtain⟨M,p⟩:=rN S;have bm:qj [.lst (cs.map D.int)]=↑↥M:=by
  unfold qj;dsimp only;rw[dG,ae,p];rfl
 have q:p9 (.lst (cs.map D.int)) ↥M=↑↥(cs.count M:Nat):=by
  unfold p9;dsimp only;rw[dG];rfl
 refine⟨[↥(cs.length:Int),↥M,↥(cs.count M:Nat)],?_⟩;have s:((cs.map D.int).length:Int)=(cs.length:Int):=by rw[af]
 unfold ku mw xQ bG;rw[am ⟨rfl,rfl⟩,am ⟨rfl,rfl⟩,show ju 3 [] [aG ss]=[!aG ss,none,none] from rfl];have b:=kI (m:=mv) (F:=bx (aB 0) aC) (e:=[!aG ss,none,none]) (r:=([aG ss],[!aG ss,none,none])) rfl;have c:=oQ (m:=qh) (F:=bx (aB 0) aC) (e:=[!aG ss,none,none]) (r:=([aG ss],[!aG ss,none,none])) rfl;rw[g] at b;rw[h] at c;generalize cs.map D.int=CD at *;generalize WS.map wD=WD at *;generalize aG ss=SS at *;simp only[xm,dJ,aE,aJ,aM,aH,ii,dW,b,c,f8,bx,aC,aB,aD,bR,ij,k,b4,dq,List.getD_cons_zero,fE,Y,bm,s,q,ak,di,show(0+1+1+1<=64)=True by simp,d7,aw,ax,ce,cj,ae,bi,jn,and_self]
def Dq(I:ss.length<=5)(S:7<ss.flatten.length):ku [] [aG ss]=↑("TooManyOrders" : Str):=by
 have D:=kI (m:=mv) (F:=bx (aB 0) aC) (e:=[!aG ss,none,none]) (r:=([aG ss],[!aG ss,none,none])) rfl;rw[uO I S] at D;unfold ku xQ;rw[am ⟨rfl,rfl⟩,show ju 3 [] [aG ss]=[!aG ss,none,none] from rfl];simp only[xm,dJ,aE,D,bi,ae]
variable{k:g8}{p:h6}{s:Hs}
def uP:um [hA k (p++[s])] []=ku [] [aG s.1]/\(ku [] [aG s.1]=none->uo [hA k (p++[s])] []=mw [] [aG s.1]):=by
 have S:bx (fK kH 0 (gy nk [0] aC)) aC [↑(.ro kH (hP k (p++[s])))]=↑([aG s.1],[↑(.ro kH (hP k (p++[s])))]):=by
  simp[bx,aC,oF,tY,CQ,z7]
 have D:=kI (m:=ku) S;have I:=oQ (m:=mw) S;unfold um uo xQ bG;rw[am ⟨rfl,rfl⟩,am ⟨rfl,rfl⟩,show ju 1 [hA k (p++[s])] []=[↑(.ro kH (hP k (p++[s])))] from rfl];unfold oP;rw[show(AK.ins false "House" jf)=kH from rfl];generalize aG s.1=SL at *;cases h:ku [] [SL] with
 |some c =>
   rw[h] at D;simp[dJ,D]
 |none =>
   rw[h] at D;refine⟨by cases h2:mw [] [SL] <;> (rw[h2] at I;simp[dJ,D,aM,I]),λ_=>?_⟩;cases h2:mw [] [SL] <;> (rw[h2] at I;simp[dJ,D,aM,I])
def uQ(I S:D):om 3 [hA k (p++[s])] [I,S]=[!I,!S,↑(.ro kH (hP k (p++[s])))]:=rfl
def kJ(I S:D):xK kH 2 (jy um [2] aC) [!I,!S,↑(.ro kH (hP k (p++[s])))]=(ku [] [aG s.1]).map λc=>(c,[!I,!S,↑(.ro kH (hP k (p++[s])))]):=by
 rw[C6 rfl];unfold jy;rw[am (show cR _ [2] from λj U=>by rw[b6.mp U];exact⟨_,rfl⟩)];have g:bT ([↑(Sl.sh I),!S,↑(.ro kH (hP k (p++[s])))]:DE0) [2]=↑[hA k (p++[s])]:=rfl;simp only[aC,ae,g,uP.1]
def oR(I S:D)(h:ku [] [aG s.1]=none):fK kH 2 (gy uo [2] aC) [!I,!S,↑(.ro kH (hP k (p++[s])))]=(mw [] [aG s.1]).map λc=>(c,[!I,!S,↑(.ro kH (hP k (p++[s])))]):=by
 rw[ya rfl];unfold gy;rw[am (show cR _ [2] from λj U=>by rw[b6.mp U];exact⟨_,rfl⟩)];have g:bT ([↑(Sl.sh I),!S,↑(.ro kH (hP k (p++[s])))]:DE0) [2]=↑[hA k (p++[s])]:=rfl;simp only[aC,ae,g,uP.2 h]
def Dr(j:Nat)(i:j<3)(S:s.1.length<=5)(U:s.1.flatten.length<=7)(l:∀x∈s.1.flatten,jt x):nn [hA k (p++[s])] [↥(j:Int),aG s.1]=none/\sf [hA k (p++[s])] [↥(j:Int),aG s.1]=↑(.bl true):=by
 obtain⟨n,o⟩:=uN S U;obtain⟨t,I,V⟩:=Dp S U l;have Y:=kJ (k:=k) (p:=p) (s:=s) ↥(j:Int) (aG s.1);have a:=oR (k:=k) (p:=p) (s:=s) ↥(j:Int) (aG s.1) I;rw[I] at Y;rw[V] at a;unfold nn sf xR eX;rw[am ⟨rfl,rfl⟩,am ⟨rfl,rfl⟩,uQ];have b:=λ(m:f4->fh->et)=>kI (m:=m) (F:=bx (aB 1) aC) (e:=[!↥(j:Int),!aG s.1,↑(.ro kH (hP k (p++[s])))]) (r:=([aG s.1],[!↥(j:Int),!aG s.1,↑(.ro kH (hP k (p++[s])))])) rfl;have c:=λ(m:f4->fh->fk)=>oQ (m:=m) (F:=bx (aB 1) aC) (e:=[!↥(j:Int),!aG s.1,↑(.ro kH (hP k (p++[s])))]) (r:=([aG s.1],[!↥(j:Int),!aG s.1,↑(.ro kH (hP k (p++[s])))])) rfl;have d:=b mv;have f:=c qh;have g:=b ku;have h:=c mw;rw[n] at d;rw[o] at f;rw[I] at g;rw[V] at h;unfold wq;rw[show(AK.ins false "House" jf)=kH from rfl];generalize aG s.1=SL at *;generalize hP k (p++[s])=HP at *;generalize (cX 9 (s.1.map List.length)).map wD=WD at *;match j,i with
 |0,_=>simp[dJ,d,f,gI,iH] at * |1,_=>simp[dJ,g,h,gI,iH] at * |2,_=>simp[dJ,Y,a,gI,iH] at *
def Ds(j:Nat)(c:j<3)(I:s.1.length<=5)(S:7<s.1.flatten.length):nn [hA k (p++[s])] [↥(j:Int),aG s.1]=↑("TooManyOrders" : Str):=by
 have d:=uO I S;have U:=Dq I S;have V:=kJ (k:=k) (p:=p) (s:=s) ↥(j:Int) (aG s.1);rw[U] at V;unfold nn xR;rw[am ⟨rfl,rfl⟩,uQ];have Y:=λ(m:f4->fh->et)=>kI (m:=m) (F:=bx (aB 1) aC) (e:=[!↥(j:Int),!aG s.1,↑(.ro kH (hP k (p++[s])))]) (r:=([aG s.1],[!↥(j:Int),!aG s.1,↑(.ro kH (hP k (p++[s])))])) rfl;have a:=Y mv;have b:=Y ku;rw[d] at a;rw[U] at b;unfold wq;rw[show(AK.ins false "House" jf)=kH from rfl];generalize aG s.1=SL at *;generalize hP k (p++[s])=HP at *;match j,c with
 |0,_=>simp[dJ,a] at * |1,_=>simp[dJ,b] at * |2,_=>simp[dJ,V] at *
def rF(a b U V Y:f0)(I S:D)(e:DE0)(h:e=[!I,!S,U,V,Y]):bx (aB 0) (bx (aB 1) aC) e=↑([I,S],e):=by
 subst h;simp[bx,aC]
def Dt(j:Nat)(D:j<3)(I:s.1.length<=5)(S:s.1.flatten.length<=7)(U:∀x∈s.1.flatten,jt x):nj [hA k (p++[s])] [↥(j:Int),aG s.1]=↑(.tup [.str "told",.bl true]):=by
 obtain⟨V,Y⟩:=Dr (k:=k) (p:=p) j D I S U;unfold nj eX;rw[am ⟨rfl,rfl⟩,show om 5 [hA k (p++[s])] [↥(j:Int),aG s.1]=[!↥(j:Int),!aG s.1,↑(.ro kH (hP k (p++[s]))),none,none] from rfl];have a:p8 nn [2] (bx (aB 0) (bx (aB 1) aC)) [!↥(j:Int),!aG s.1,↑(.ro kH (hP k (p++[s]))),!(.tup [.str "refused",.str ""]),none]=none:=by
  unfold p8;rw[rF none none _ _ _ ↥(j:Int) (aG s.1) _ rfl];show(nn [hA k (p++[s])] [↥(j:Int),aG s.1]).map _=none;rw[V];rfl
 have b:o8 sf [2] (bx (aB 0) (bx (aB 1) aC)) [!↥(j:Int),!aG s.1,↑(.ro kH (hP k (p++[s]))),!(.tup [.str "refused",.str ""]),none]=↑(.bl true,[!↥(j:Int),!aG s.1,↑(.ro kH (hP k (p++[s]))),!(.tup [.str "refused",.str ""]),none]):=by
  unfold o8;rw[rF none none _ _ _ ↥(j:Int) (aG s.1) _ rfl];show(sf [hA k (p++[s])] [↥(j:Int),aG s.1]).map _=_;rw[Y];rfl
 generalize aG s.1=SL at *;generalize hP k (p++[s])=HP at *;simp[xv,gL,dJ,qi,a,b]
def Du(j:Nat)(D:j<3)(I:s.1.length<=5)(S:7<s.1.flatten.length):nj [hA k (p++[s])] [↥(j:Int),aG s.1]=↑(.tup [.str "refused",.str "too many orders"]):=by
 have U:=Ds (k:=k) (p:=p) j D I S;unfold nj eX;rw[am ⟨rfl,rfl⟩,show om 5 [hA k (p++[s])] [↥(j:Int),aG s.1]=[!↥(j:Int),!aG s.1,↑(.ro kH (hP k (p++[s]))),none,none] from rfl];have V:p8 nn [2] (bx (aB 0) (bx (aB 1) aC)) [!↥(j:Int),!aG s.1,↑(.ro kH (hP k (p++[s]))),!(.tup [.str "refused",.str ""]),none]=↑(("TooManyOrders" : Str),[!↥(j:Int),!aG s.1,↑(.ro kH (hP k (p++[s]))),!(.tup [.str "refused",.str ""]),none]):=by
  unfold p8;rw[rF none none _ _ _ ↥(j:Int) (aG s.1) _ rfl];show(nn [hA k (p++[s])] [↥(j:Int),aG s.1]).map _=_;rw[U];rfl
 have k1:gM ("TooManyOrders" : Str)=↑(.tup [.str "refused",.str "too many orders"]):=by rfl
 generalize aG s.1=SL at *;generalize hP k (p++[s])=HP at *;simp[xv,gL,dJ,qi,V,k1]
abbrev fJ(s:Hs):fh:=s.1.map λs=>D.lst (s.map sD)
abbrev EV(A B C Z:f0)(K:g8)(p:h6)(s:Hs)(v6 v7 v8 v9:f0):DE0:=[A,B,C,Z,↑(.ow (fJ s)),↑(.ag kH none (hP K (p++[s]))),v6,v7,v8,v9,none,none,none]
structure Un (n:Nat) (K:g8) (p:h6) (s:Hs):Prop where
 hi:HI n K p s
 fl:s.1.flatten.length=K.length
 nx:gw K=K.length+1
variable{A Z:f0}{cs:ei}{K:g8}
theorem oS{v7 v8 v9:f0}{c:Int}(u:Un n K p s)(k:1<=n)(m:K.length<14)(o:cs[1+K.length]?=↑c) :
  ∃d p' s' q r v,Un n d p' s'/\d.length=K.length+1/\t5 (EV A ⇑(.lst (cs.map D.int)) ⇑↥(n:Int) Z K p s ⇑↥(K.length:Int) v7 v8 v9)=↑(.nx,EV A ⇑(.lst (cs.map D.int)) ⇑↥(n:Int) Z d p' s' ⇑↥(K.length:Int) q r v):=by
 obtain⟨hi,W,V⟩:=u;have j:=hi.at;have l5:=hi.l5;have sl:=j.len;have X:=hi.n5;have kp:=hi.kp;obtain⟨a,ha,haN⟩:∃a:Nat,c / 6060 % (n:Int)=(a:Int)/\a<n:=by
  have h1:=Int.emod_nonneg (c / 6060) (show(n:Int)≠0 by lia);have h2:=Int.emod_lt_of_pos (c / 6060) (show(0:Int)<(n:Int) by lia);exact⟨(c / 6060 % (n:Int)).toNat,by lia,by lia⟩
 obtain⟨I,eh⟩:∃I:Int,I=1+c % 60:=⟨_,rfl⟩;obtain⟨S,el⟩:∃S:Int,S=c / 60 % 101:=⟨_,rfl⟩;have w:1<=I:=by lia
 have y:I<=60:=by lia
 have z:0<=S:=by lia
 have B:S<=100:=by lia
 obtain⟨t,g0⟩:∃t,s.1[a]?=↑t:=⟨_,au ∅⟩;have gd:s.1.getD a []=t:=by rw[aq,g0];rfl
 have tl:t.length<=s.1.flatten.length:=(ff (br g0)).length_le;have hx:gQ s.1 K.length ((a+1:Nat):Int) I S=none:=by
  unfold gQ;rw[b3 ∅,b3 ∅,b3 ∅,am ∅,am ∅]
 have C:=(CU (p:=p) hx l5 ∅).2;have sp:=Dg (num:=gw K) (h:=I) (l:=S) (a:=a+1) (ss:=s.1) ∅ ∅ l5 (by rw[show a+1-1=a by lia,gd];lia);have E:=Dh K;have F:jt (gw K,I,S):=⟨E.1,by show gw K<=60;lia,w,y,z,B⟩;have Y:bX s.1 (a+1) (gw K,I,S)=s.1.set a ((gw K,I,S)::t):=by
  unfold bX;rw[show a+1-1=a by lia,gd]
 have G:SI n (K.length+1) (bX s.1 (a+1) (gw K,I,S),s.2):=by
  rw[Y];exact j.swap g0 (by rw[ak];lia) λx hx H=>by
   rcases bz.mp hx with rfl |hx
   ·exact F
   ·exact H x hx
 have st:oK K s (.put ((a+1:Nat):Int) I S) (bX s.1 (a+1) (gw K,I,S),s.2):=⟨hx,_,sp,rfl⟩;have e:=hi.push ∅ G st;have pf:=C_ (ss:=s.1) (a:=a+1) (x:=(gw K,I,S)) ∅;refine⟨_,_,_,!↥c,!(sD (gw K,I,S)),!↥(a:Int),⟨e,by rw[bd,e7];show(bX s.1 (a+1) (gw K,I,S)).flatten.length=_;lia,?_⟩,by rw[bd];rfl,?_⟩
 ·unfold gw at V ⊢
  rw[List.filter_append,show[cW.put ((a+1:Nat):Int) I S].filter cW.isPut=[cW.put ((a+1:Nat):Int) I S] from rfl];simp
  lia
 ·have J:fK kH 5 (mi uj [5] (bx (aD gx (aB 9) [:1]) (bx (aK 8 [:1]) (bx (aK 8 [:2]) aC)))) (EV A ⇑(.lst (cs.map D.int)) ⇑↥(n:Int) Z K p s ⇑↥(K.length:Int) ⇑↥c ⇑(sD (gw K,I,S)) ⇑↥(a:Int))=↑(.int (gw K),[A,!.lst (cs.map D.int),!↥(n:Int),Z,↑(.ow (fJ s)),↑(.ag kH none (hP (K++[.put ((a+1:Nat):Int) I S]) (p++[s]++[(bX s.1 (a+1) (gw K,I,S),s.2)]))),!↥(K.length:Int),!↥c,!(sD (gw K,I,S)),!↥(a:Int),none,none,none]):=by
   rw[uv (ps:=hP K (p++[s])) (l:=none) rfl];exact t_ (ps:=hP K (p++[s])) (l:=none) (ds:=[↥((a+1:Nat):Int),↥I,↥S]) rfl rfl C
  have L:eQ (fJ s).length (a:Int)=↑a:=vt ∅ (by rw[af];lia) |>.trans (by congr 1);have M:bZ (fJ s) (a:Int)=↑(.lst (t.map sD)):=lr (λs:gs=>D.lst (s.map sD)) g0;have N:(fJ s).set a (.lst (sD (gw K,I,S)::t.map sD))=fJ (bX s.1 (a+1) (gw K,I,S),s.2):=by
   show _=(bX s.1 (a+1) (gw K,I,S)).map _;rw[Y,List.map_set];rfl
  have O:cE (0+1+(t.map sD).length):=few (by rw[af];lia);have P:bZ [D.int ((K.length:Int)+1),↥I,↥S] 1=↑↥I:=rfl;have Q:bZ [D.int ((K.length:Int)+1),↥I,↥S] 2=↑↥S:=rfl;have R:bZ (cs.map D.int) (1+(K.length:Int))=↑↥c:=by
   rw[show(1:Int)+(K.length:Int)=((1+K.length:Nat):Int) by lia];exact lr D.int o
  have f:cV ↥c ↥60=↑↥(c / 60):=zo (by decide) (by decide);have U:cV ↥c ↥6060=↑↥(c / 6060):=zo (by decide) (by decide);have g:bH ↥c ↥60=↑↥(c % 60):=ua (by decide);have b:bH ↥(c / 60) ↥101=↑↥S:=by rw[el];exact ua (by decide)
  have i:(1:Int)+c % 60=I:=eh.symm;have T:bH ↥(c / 6060) ↥(n:Int)=↑↥(a:Int):=by rw[<-ha];exact ua ∅
  unfold EV at *;rw[<-N];rw[V] at *;generalize hP (K++[cW.put ((a+1:Nat):Int) I S]) (p++[s]++[(bX s.1 (a+1) ((K.length:Int)+1,I,S),s.2)])=HP' at *;generalize hP K (p++[s])=HP at *;generalize fJ s=TS at *;generalize (K.length:Int)=KL at *;generalize t.map sD=TD at *;generalize cs.map D.int=CD at *;unfold sD at *;dsimp only at *;simp only[t5,show(AK.ins false "House" jf)=kH from rfl,bL,aE,aJ,aT,tx,yh,aI,aD,aB,fC,iG,gx,R,f,U,g,b,T,i,J,aH,bJ,fy,bR,bx,aC,aK,eF,P,Q,M,L,O,aw,ax,ce,cj,di,ak,jp,dm,ae,bi,tj,decide_true,cw,fo,d7,show 0+1+1+1<=64 by decide,show 0+1<=64 by decide]
theorem oU{m:Nat}(S:1<=n)(U:n<=5)(l:m<=14)(o:m<cs.length) :
  ∃K p s v6 v7 v8 v9,Un n K p s/\K.length=m/\cM 6 t5 (bK 0 m) (EV A ⇑(.lst (cs.map D.int)) ⇑↥(n:Int) Z [] [] (bY n) none none none none)=↑(.nx,EV A ⇑(.lst (cs.map D.int)) ⇑↥(n:Int) Z K p s v6 v7 v8 v9):=by
 obtain⟨e',h1,K,p,s,v6,v7,v8,v9,u,I,rfl⟩:=ug (i:=6) (g:=t5) (λi e=>∃K p s v6 v7 v8 v9,Un n K p s/\K.length=i/\e=EV A ⇑(.lst (cs.map D.int)) ⇑↥(n:Int) Z K p s v6 v7 v8 v9) (bK 0 m) (EV A ⇑(.lst (cs.map D.int)) ⇑↥(n:Int) Z [] [] (bY n) none none none none)
  ⟨[],[],bY n,none,none,none,none,⟨HI.new U,by simp[bY],rfl⟩,rfl,rfl⟩ (by
  rintro i d e V ⟨K,p,s,v6,v7,v8,v9,u,I,rfl⟩;obtain⟨rfl,hi⟩:=ud V;subst I;rw[ig];obtain⟨Y,p',s',a,b,f,j,k,h⟩:=oS (A:=A) (Z:=Z) (v7:=v7) (v8:=v8) (v9:=v9) (cs:=cs) (c:=cs[1+K.length]'∅) u S ∅ (au _);exact⟨_,h,Y,p',s',_,a,b,f,j,k,rfl⟩)
 rw[wz] at I;exact⟨K,p,s,v6,v7,v8,v9,u,I,h1⟩
theorem ye{B C v6 v7 v8 v9 v11:f0}{o:Sl}{I:fh}(Y:o=.ow (fJ s)\/o=.sh (aG s.1))(b:s.1.length<=5)(c:s.1.flatten.length<=14)(j:Nat)(hd:I.all jI=true)(a:nj [hA K (p++[s])] [↥(j:Int),aG s.1]=↑(.tup I)) :
  t4 [A,B,C,Z,↑o,↑(.ag kH none (hP K (p++[s]))),v6,v7,v8,v9,!.tup I,!↥(j:Int),v11]=↑(.nx,[A,B,C,Z,!aG s.1,↑(.ag kH none (hP K (p++[s]))),v6,v7,v8,v9,!.tup I,!↥(j:Int),!aG s.1]):=by
 have S:=Ca s.1 ∅;have ss:=tF s.1 ∅ λt h=>b5 (ff h).length_le ∅;have U:o8 nj [5] (bx (aB 11) (bx (aB 12) aC)) [A,B,C,Z,!aG s.1,↑(.ag kH none (hP K (p++[s]))),v6,v7,v8,v9,!.tup I,!↥(j:Int),!aG s.1]=↑(.tup I,[A,B,C,Z,!aG s.1,↑(.ag kH none (hP K (p++[s]))),v6,v7,v8,v9,!.tup I,!↥(j:Int),!aG s.1]):=by
  unfold o8;rw[show bx (aB 11) (bx (aB 12) aC) [A,B,C,Z,!aG s.1,↑(.ag kH none (hP K (p++[s]))),v6,v7,v8,v9,!.tup I,!↥(j:Int),!aG s.1]=↑([↥(j:Int),aG s.1],[A,B,C,Z,!aG s.1,↑(.ag kH none (hP K (p++[s]))),v6,v7,v8,v9,!.tup I,!↥(j:Int),!aG s.1]) from by simp[bx,aC]];show(nj [hA K (p++[s])] [↥(j:Int),aG s.1]).map _=_;rw[a];rfl
 have V:gO (.tup I) (.tup I)=↑(.bl false):=by
  show(if I=I/\I.all jI=true then ↑(D.bl false) else none)=_;rw[am ⟨rfl,hd⟩]
 rcases Y with rfl |rfl
 ·unfold aG fJ at *
  generalize hP K (p++[s])=HP at *;generalize (s.1.map λs=>D.lst (s.map sD))=SL at *;simp only[t4,aE,aJ,bL,aT,aH,gm,f8,bx,aC,aB,fP,dM,aI,aD,S,ss,U,V,aw,ax,ce,cj,ae,bi,tj,cw,fo]
 ·unfold aG at *
  generalize hP K (p++[s])=HP at *;generalize (s.1.map λs=>D.lst (s.map sD))=SL at *;simp only[t4,aE,aJ,bL,aT,aH,gm,f8,bx,aC,aB,fP,dM,aI,aD,S,ss,U,V,aw,ax,ce,cj,ae,bi,tj,cw,fo]
theorem good(ns:ei)(q:ns.length<=63):uI [.lst (ns.map D.int)]=↑(.bl true):=by
 obtain⟨cs,U,hd⟩:=BN ns 15 ∅;have hd:uk [.lst (ns.map D.int),↥15]=↑(.lst (cs.map D.int)):=hd;have r:bZ (cs.map D.int) 0=↑(.int cs[0]):=lr (k:=0) D.int (by simp[U]);generalize cs[0]'∅=c at *;obtain⟨n,en,hn1,hn5⟩:∃n:Nat,1+c % 5=(n:Int)/\1<=n/\n<=5:=⟨(1+c % 5).toNat,by lia,by lia,by lia⟩;obtain⟨m,em,hm6,hm14⟩:∃m:Nat,6+c / 5 % 9=(m:Int)/\6<=m/\m<=14:=⟨(6+c / 5 % 9).toNat,by lia,by lia,by lia⟩;have v:bH ↥c ↥5=↑↥(c % 5):=ua (by decide);have w:cV ↥c ↥5=↑↥(c / 5):=zo (by decide) (by decide);have x:bH ↥(c / 5) ↥9=↑↥(c / 5 % 9):=ua (by decide);obtain⟨A,eA⟩:∃A:f0,A=⇑(.lst (ns.map D.int)):=⟨_,rfl⟩;obtain⟨Z,eZ⟩:∃A:f0,A=⇑↥(m:Int):=⟨_,rfl⟩;have y:=CW (n:=n) hn5 (F:=bx (aB 2) aC) (e:=[A,!.lst (cs.map D.int),!↥(n:Int),Z,↑(.ow (fJ (bY n))),none,none,none,none,none,none,none,none]) (e':=[A,!.lst (cs.map D.int),!↥(n:Int),Z,↑(.ow (fJ (bY n))),none,none,none,none,none,none,none,none]) rfl;obtain⟨K,p,s,v6,v7,v8,v9,u,P,h1⟩:=oU (A:=A) (Z:=Z) (cs:=cs) hn1 hn5 hm14 ∅;have z:=n9 n ∅;have V:=n9 m ∅;have Y:eV [↥3]=↑(bK 0 3):=n9 3 (by decide);have E:cE (bK 0 n).length:=few (by rw[wz];lia);have g:=mr (te:=aH (fy aC)) (base:=[]) (λi:Nat=>D.int (0+(i:Int))) (λ_:Nat=>D.lst []) (List.range n) λi _=>⟨_,rfl⟩;rw[show((List.range n).map λi:Nat=>D.int (0+(i:Int)))=bK 0 n from rfl,show((List.range n).map λ_:Nat=>D.lst [])=fJ (bY n) from by rw[List.map_const',fg];show _=(List.replicate n ([]:gs)).map _;rw[List.map_replicate];rfl] at g;have hi:=u.hi;have o:=hi.at;have l5:=hi.l5;have S:=o.few;have G:=u.fl;have H:=CB (k:=K) (p:=p) (s:=s) ∅;have a:=tF s.1 ∅ λt h=>b5 (ff h).length_le ∅;have r3:bK 0 3=[↥((0:Nat):Int),↥((1:Nat):Int),↥((2:Nat):Int)]:=rfl;obtain⟨I,hsd,hdu,hdoor⟩:∃I:fh,I.all jI=true/\(bL (aI (aD eB (aB 3) [:7])) (aJ 10 (bR (bx (fC (.str "refused")) (bx (fC (.str "too many orders")) (aC))))) (aT) [A,!.lst (cs.map D.int),!↥(n:Int),Z,↑(.ow (fJ s)),↑(.ag kH none (hP K (p++[s]))),v6,v7,v8,v9,!(.tup [.str "told",.bl true]),none,none]=↑(.nx,[A,!.lst (cs.map D.int),!↥(n:Int),Z,↑(.ow (fJ s)),↑(.ag kH none (hP K (p++[s]))),v6,v7,v8,v9,!.tup I,none,none]))/\∀j,j<3->nj [hA K (p++[s])] [↥((j:Nat):Int),aG s.1]=↑(.tup I):=by
  subst eZ;by_cases Q:m<=7
  ·have b:decide ((7:Int)<(m:Int))=false:=c9 ∅
   exact⟨[.str "told",.bl true],rfl,by simp only[bL,aT,aI,aD,aB,fC,eB,b,aw,ax,ae,bi,cw,fo],λj d=>Dt j d l5 ∅ o.good⟩
  ·have b:decide ((7:Int)<(m:Int))=true:=j2 ∅
   exact⟨[.str "refused",.str "too many orders"],rfl,by simp[bL,aI,aD,aB,fC,eB,b,aJ,bR,bx,aC],λj d=>Du j d l5 ∅⟩
 have J:=ye (A:=A) (B:=⇑(.lst (cs.map D.int))) (C:=⇑↥(n:Int)) (Z:=Z) (v6:=v6) (v7:=v7) (v8:=v8) (v9:=v9) (v11:=none) (K:=K) (p:=p) (s:=s) (.inl rfl) l5 S 0 hsd (hdoor 0 (by decide));have L:=ye (A:=A) (B:=⇑(.lst (cs.map D.int))) (C:=⇑↥(n:Int)) (Z:=Z) (v6:=v6) (v7:=v7) (v8:=v8) (v9:=v9) (v11:=⇑(aG s.1)) (K:=K) (p:=p) (s:=s) (.inr rfl) l5 S 1 hsd (hdoor 1 (by decide));have M:=ye (A:=A) (B:=⇑(.lst (cs.map D.int))) (C:=⇑↥(n:Int)) (Z:=Z) (v6:=v6) (v7:=v7) (v8:=v8) (v9:=v9) (v11:=⇑(aG s.1)) (K:=K) (p:=p) (s:=s) (.inr rfl) l5 S 2 hsd (hdoor 2 (by decide));have f:cM 11 t4 (bK 0 3) [A,!.lst (cs.map D.int),!↥(n:Int),Z,↑(.ow (fJ s)),↑(.ag kH none (hP K (p++[s]))),v6,v7,v8,v9,!.tup I,none,none]=↑(.nx,[A,!.lst (cs.map D.int),!↥(n:Int),Z,!aG s.1,↑(.ag kH none (hP K (p++[s]))),v6,v7,v8,v9,!.tup I,!↥((2:Nat):Int),!aG s.1]):=by
  rw[r3];simp only[cM,ce,cj,J,L,M,ae]
 have sq:=CY (m:=ul) (e:=[A,!.lst (cs.map D.int),!↥(n:Int),Z,!aG s.1,↑(.ag kH none (hP K (p++[s]))),v6,v7,v8,v9,!.tup I,!↥((2:Nat):Int),!aG s.1]) (i:=5) (l:=none) (k:=K) (p:=p++[s]) rfl;rw[H,bi] at sq;refine ml (e':=[A,!.lst (cs.map D.int),!↥(n:Int),Z,!aG s.1,↑(.ag kH none (hP K (p++[s]))),v6,v7,v8,v9,!.tup I,!↥((2:Nat):Int),!aG s.1]) rfl ?_;show yf [!.lst (ns.map D.int),none,none,none,none,none,none,none,none,none,none,none,none]=_;unfold EV at h1;rw[jp] at h1;subst eA eZ;unfold yf;rw[show(AK.ins false "House" jf)=kH from rfl];have N:(1:Int)+c % 5=(n:Int):=en;have O:(6:Int)+c / 5 % 9=(m:Int):=em;generalize ns.map D.int=NS at *;generalize cs.map D.int=CD at *;generalize aG s.1=SL at *;generalize hP K (p++[s])=HP at *;generalize hP [] [bY n]=HP0 at *;generalize fJ s=LS at *;generalize fJ (bY n)=LN at *;generalize bK 0 n=RN at *;generalize bK 0 m=RM at *;generalize bK 0 3=R3 at *;simp only[aE,aJ,dH,aM,dR,uz,ii,f8,gm,bx,aC,bR,hd,aD,fC,aB,aK,eF,r,v,w,x,gx,N,O,z,V,Y,E,g,y,h1,hdu,f,sq,a,dq,ak,di,show(0+1+1<=64)=True by simp,d7,aw,ax,ce,cj,ae,bi]
end SQ
end
open PySem PySem.W PyProof.Rows
open L2 (us1 us2 us3 us4 us5)
theorem PySem.Challenge.cw_rotstacks_k15_many_orders_refused_holds : PySem.Challenge.rw_rotstacks_k15_many_orders_refused.Holds := by
 refine headO ?_
 k_fill
 refine L2.walkD (k:=16) (s:="_law_script") (l:=PySem.Challenge.rw_rotstacks_k15_many_orders_refused) ⟨rfl,by decide,by decide⟩ rfl rfl (λw h Y=>PySem.W.kIn_of Y) ?F;case F =>
  intro w mg fa h KX G hmg;refine' L2.law_mk KX G hmg ?a ?l ?c ?k ?b (SQ.ok_all _ _ _ _ _ _ _ _ _ _ _ _ _ _ _ _ _ _ _ _ _ _ _ _ _ _ _ _ _ _ _ _ _ _ _ ?hhC _ _ _ _ _ _ _ _ _ _ _ _ _ _ _ _ _ _ _ _ _ _ _ _ _ _ _ _ _ _ _ _) SQ.good
  (case a=>k_is)
  (case l=>k_is)
  (case c=>k_is)
  (case k=>k_is)
  (case b=>exact λv=>rfl)
  (case hhC=>unfold L2.Cl;k_is)
  all_goals first | (refine' L2.def_mk (by assumption) (by assumption) ?a ?l ?c ?k ?b;(case a=>k_is);(case l=>k_is);(case c=>k_is);(case k=>k_is);(case b=>first |exact us1 λ_=>rfl |exact us2 λ_ _=>rfl |exact us3 λ_ _ _=>rfl |exact us4 λ_ _ _ _=>rfl |exact us5 λ_ _ _ _ _=>rfl)) | (refine' L2.mef_mk ?a ?l ?c ?k ?i ?b;(case a=>k_is);(case l=>k_is);(case c=>k_is);(case k=>k_is);(case i=>k_is);(case b=>first |exact us1 λ_=>rfl |exact us2 λ_ _=>rfl |exact us3 λ_ _ _=>rfl |exact us4 λ_ _ _ _=>rfl |exact us5 λ_ _ _ _ _=>rfl)) |exact⟨by k_is,by k_is,by k_is,by k_is⟩ |exact PySem.W.mg_none_of KX G (by k_is) |exact i6 KX G (by k_is) | (refine' L2.exc_mk KX G ?a ?b (by decide +kernel);(case a=>k_is);(case b=>k_exc)) | (refine' L2.con_mk KX G ?a;(case a=>k_is)) |exact L2.kf_mk KX G (by kernel_rfl) |k_is

